import Derived.Test.YtclpnafiiobfhabGreatDoorZMa
import Derived.Test.YtclpnafiiobfhabGreatDoorBuf
import Derived.Test.YtclpnafiiobfhabGreatDoorTold
namespace Go.Proofs.YtclpnafiiobfhabGreatDoor
open Go.RowKit
set_option linter.unusedVariables false
set_option linter.unusedSimpArgs false

/-- block m is a machine at work -/
structure Mc (w : World) (m : Nat) (sl : Value) (q : Int × Int) (a : St) : Prop where
  data : w.cell? ⟨m, 0, none⟩ = some sl
  m0 : w.cell? ⟨m, 1, none⟩ = some (.int .u32 q.1)
  m1 : w.cell? ⟨m, 2, none⟩ = some (.int .u32 q.2)
  reg : ∀ i, i < 4 → w.cell? ⟨m, 3 + i, none⟩ = some (.int .u32 (a.reg.getD i 0))
  set : ∀ i, i < 4 → w.cell? ⟨m, 7 + i, none⟩ = some (.bool (a.set.getD i false))
  froz : ∀ i, w.frozen? ⟨m, i, none⟩ = false
  lt : m < w.heap.size
theorem Mc.below {w w' : World} {m : Nat} {sl : Value} {q : Int × Int} {a : St} (h : Mc w m sl q a) (hw : Below w.heap.size w w') : Mc w' m sl q a := by
  have lt := h.lt
  have hc : ∀ i, w'.cell? ⟨m, i, none⟩ = w.cell? ⟨m, i, none⟩ := fun i => hw.cell (p := ⟨m, i, none⟩) lt
  exact ⟨(hc _).trans h.data, (hc _).trans h.m0, (hc _).trans h.m1, fun i hi => (hc _).trans (h.reg i hi), fun i hi => (hc _).trans (h.set i hi), fun i => (hw.frozen (p := ⟨m, i, none⟩) lt).trans (h.froz i), Nat.lt_of_lt_of_le lt hw.size⟩
theorem Mc.turn {w : World} {m : Nat} {sl : Value} {q : Int × Int} {a : St} (h : Mc w m sl q a) (ha : a.Ok) (x : Ins) (hr : 0 ≤ x.r ∧ x.r < 4) (v : Int) : Mc (w.setCell ⟨m, 3 + x.r.toNat, none⟩ (.int .u32 v)) m sl q (a.turn x v) := by
  have o : ∀ (c : Nat) , 3 + x.r.toNat ≠ c → (w.setCell ⟨m, 3 + x.r.toNat, none⟩ (.int .u32 v)).cell? ⟨m, c, none⟩ = w.cell? ⟨m, c, none⟩ := fun c hc => cell_set_off w m _ c _ hc
  refine ⟨(o _ (by omega)).trans h.data, (o _ (by omega)).trans h.m0, (o _ (by omega)).trans h.m1, fun i hi => ?_, fun i hi => (o _ (by omega)).trans (h.set i hi), fun i => by rw [frozen_set]; exact h.froz i, by simp [World.setCell]; exact h.lt⟩
  unfold St.turn
  by_cases e : x.r.toNat = i
  · subst e
    rw [getD_set_self _ _ _ _ (by rw [ha.reg]; omega)]
    exact cell_set_same _ _ _ (h.reg _ hi)
  · rw [getD_set_ne _ _ _ _ _ e]
    exact (o _ (by omega)).trans (h.reg i hi)
theorem Mc.put {w : World} {m : Nat} {sl : Value} {q : Int × Int} {a : St} (h : Mc w m sl q a) (ha : a.Ok) (x : Ins) (hr : 0 ≤ x.r ∧ x.r < 4) (v : Int) : Mc ((w.setCell ⟨m, 3 + x.r.toNat, none⟩ (.int .u32 v)).setCell ⟨m, 7 + x.r.toNat, none⟩ (.bool true)) m sl q (a.put x v) := by
  have g := h.turn ha x hr v
  generalize w.setCell ⟨m, 3 + x.r.toNat, none⟩ (.int .u32 v) = u at g
  have o : ∀ (c : Nat) , 7 + x.r.toNat ≠ c → (u.setCell ⟨m, 7 + x.r.toNat, none⟩ (.bool true)).cell? ⟨m, c, none⟩ = u.cell? ⟨m, c, none⟩ := fun c hc => cell_set_off u m _ c _ hc
  refine ⟨(o _ (by omega)).trans g.data, (o _ (by omega)).trans g.m0, (o _ (by omega)).trans g.m1, fun i hi => (o _ (by omega)).trans (g.reg i hi), fun i hi => ?_, fun i => by rw [frozen_set]; exact g.froz i, by simp [World.setCell]; exact g.lt⟩
  unfold St.put
  by_cases e : x.r.toNat = i
  · subst e
    rw [getD_set_self _ _ _ _ (by rw [ha.set]; omega)]
    exact cell_set_same _ _ _ (g.set _ hi)
  · rw [getD_set_ne _ _ _ _ _ e]
    exact (o _ (by omega)).trans (g.set i hi)

set_option maxHeartbeats 400000 in
theorem put_any (r v x : Int) (b : Bool) (m : Nat) (w : World) (h0 : 0 ≤ r) (h4 : r < 4) (hc : w.cell? ⟨m, 3 + r.toNat, none⟩ = some (.int .u32 x)) (hd : w.cell? ⟨m, 7 + r.toNat, none⟩ = some (.bool b)) (f0 : w.frozen? ⟨m, 3 + r.toNat, none⟩ = false) (f1 : w.frozen? ⟨m, 7 + r.toNat, none⟩ = false) :
    Calls Tryz.prog 122 #[.pointer (some ⟨m, 0, none⟩), .int .u8 r, .int .u32 v] w fun e w' => e = .returned (.tuple #[]) ∧ w' = (w.setCell ⟨m, 3 + r.toNat, none⟩ (.int .u32 v)).setCell ⟨m, 7 + r.toNat, none⟩ (.bool true) := by
  go_enter Tryz.func122, Tryz.ntmps122
  go_wp2
  go_end0
  exact ⟨rfl, rfl⟩

set_option maxHeartbeats 1600000 in
theorem trap_unset (x : Ins) (m : Nat) (sp : Option Addr) (sn sc : Nat) (q : Int × Int) (a : St) (w : World) (hb : x.Bd) (hr : x.r < 4) (hM : Mc w m (.slice sp sn sc) q a) (hu : x.uses = true) (hs : a.set.getD x.r.toNat false = false) :
    Calls Tryz.prog 96 #[.pointer (some ⟨m, 0, none⟩), insV x] w fun e w' => e = .returned (.iface 22 (.int .i64 21)) ∧ Below w.heap.size w w' := by
  have br := hb.r
  have cs := hM.set x.r.toNat (by omega)
  have cd := hM.data
  have ml := hM.lt
  have hU := fun w => uses_is x true w hu
  rw [hs] at cs
  obtain ⟨op, r, t, f, k⟩ := x
  unfold insV at *
  dsimp only at *
  clear hb hu hs hM
  have HKP : Hid (∀ w', Below (w.heap.size + 1) (w.alloc (.cells #[.int .u8 op, .int .u8 r, .int .u8 t, .int .u8 f, .int .u32 k] 203)) w' → (fun w' => w'.cell? ⟨w.heap.size, 0, none⟩ = some (.int .u8 op) ∧ w'.cell? ⟨w.heap.size, 1, none⟩ = some (.int .u8 r) ∧ w'.cell? ⟨w.heap.size, 2, none⟩ = some (.int .u8 t) ∧ w'.cell? ⟨w.heap.size, 3, none⟩ = some (.int .u8 f) ∧ w'.cell? ⟨w.heap.size, 4, none⟩ = some (.int .u32 k) ∧ w'.cell? ⟨m, 7 + r.toNat, none⟩ = some (.bool false) ∧ w'.cell? ⟨m, 0, none⟩ = some (.slice sp sn sc)) w') := fun w' hw => by
    have hc : ∀ c, w'.cell? ⟨w.heap.size, c, none⟩ = (w.alloc (.cells #[.int .u8 op, .int .u8 r, .int .u8 t, .int .u8 f, .int .u32 k] 203)).cell? ⟨w.heap.size, c, none⟩ := fun c => hw.cell (p := ⟨w.heap.size, c, none⟩) (by simp)
    have hd : ∀ c, w'.cell? ⟨m, c, none⟩ = w.cell? ⟨m, c, none⟩ := fun c => (hw.cell (p := ⟨m, c, none⟩) (by show m < _; omega)).trans (World.cell?_alloc_lt _ _ _ ml)
    refine ⟨?_, ?_, ?_, ?_, ?_, (hd _).trans cs, (hd _).trans cd⟩ <;> (rw [hc, World.cell?_alloc_at _ _ _ _ rfl]; rfl)
  clear cs cd
  go_enter Tryz.func96, Tryz.ntmps96
  go_upto_region 1 with fail
  go_cut [5] from 6 to 17 (fun v w' => v = .bool true ∧ Below (w.heap.size + 1) (w.alloc (.cells #[.int .u8 op, .int .u8 r, .int .u8 t, .int .u8 f, .int .u32 k] 203)) w')
  case first =>
    go_region_held3 (fun w' => w'.cell? ⟨w.heap.size, 0, none⟩ = some (.int .u8 op) ∧ w'.cell? ⟨w.heap.size, 1, none⟩ = some (.int .u8 r) ∧ w'.cell? ⟨w.heap.size, 2, none⟩ = some (.int .u8 t) ∧ w'.cell? ⟨w.heap.size, 3, none⟩ = some (.int .u8 f) ∧ w'.cell? ⟨w.heap.size, 4, none⟩ = some (.int .u32 k) ∧ w'.cell? ⟨m, 7 + r.toNat, none⟩ = some (.bool false) ∧ w'.cell? ⟨m, 0, none⟩ = some (.slice sp sn sc)) (exact HKP.out _ (by repeat (first | with_reducible exact Below.refl _ _ | with_reducible exact HBX.out | with_reducible refine Below.drew ?_ | with_reducible refine Below.alloc ?_ (by first | omega | (simp; done) | (simp; omega)) _))) (first | (go_at_call 119; refine (hU _).mono ?_; rintro e w1 ⟨rfl, hb1⟩; have HBX : Hid (Below (w.heap.size + 1) (w.alloc (.cells #[.int .u8 op, .int .u8 r, .int .u8 t, .int .u8 f, .int .u32 k] 203)) w1) := Below.trans (by repeat (first | with_reducible exact Below.refl _ _ | with_reducible refine Below.drew ?_)) (hb1.mono (by first | omega | (simp; done) | (simp; omega))); obtain ⟨q0, q1, q2, q3, q4, q5, q6⟩ := HKP.out w1 HBX.out; clear hb1))
    all_goals
      go_wp2_with fail
      go_meet
      exact ⟨rfl, by repeat (first | with_reducible exact HBX.out | with_reducible refine Below.drew ?_)⟩
  case rest =>
    obtain ⟨rfl, hB2⟩ := hcut
    go_wp2_with fail
    go_ret
    exact ⟨rfl, ((Below.refl _ _).alloc (Nat.le_refl _) _).trans (hB2.mono (by omega))⟩

set_option maxHeartbeats 1600000 in
theorem trap_set (x : Ins) (m : Nat) (sp : Option Addr) (sn sc : Nat) (q : Int × Int) (a : St) (w : World) (hb : x.Bd) (hr : x.r < 4) (hM : Mc w m (.slice sp sn sc) q a) (hu : x.uses = true) (hl : x.load = false) (hs : a.set.getD x.r.toNat false = true) :
    Calls Tryz.prog 96 #[.pointer (some ⟨m, 0, none⟩), insV x] w fun e w' => e = .returned .nilIface ∧ Below w.heap.size w w' := by
  have br := hb.r
  have cs := hM.set x.r.toNat (by omega)
  have cd := hM.data
  have ml := hM.lt
  have hU := fun w => uses_is x true w hu
  have hL := fun w => isLoad_is x false w hl
  rw [hs] at cs
  obtain ⟨op, r, t, f, k⟩ := x
  unfold insV insO at *
  dsimp only at *
  clear hb hu hs hM hl
  have HKP : Hid (∀ w', Below (w.heap.size + 1) (w.alloc (.cells #[.int .u8 op, .int .u8 r, .int .u8 t, .int .u8 f, .int .u32 k] 203)) w' → (fun w' => w'.cell? ⟨w.heap.size, 0, none⟩ = some (.int .u8 op) ∧ w'.cell? ⟨w.heap.size, 1, none⟩ = some (.int .u8 r) ∧ w'.cell? ⟨w.heap.size, 2, none⟩ = some (.int .u8 t) ∧ w'.cell? ⟨w.heap.size, 3, none⟩ = some (.int .u8 f) ∧ w'.cell? ⟨w.heap.size, 4, none⟩ = some (.int .u32 k) ∧ w'.cell? ⟨m, 7 + r.toNat, none⟩ = some (.bool true) ∧ w'.cell? ⟨m, 0, none⟩ = some (.slice sp sn sc)) w') := fun w' hw => by
    have hc : ∀ c, w'.cell? ⟨w.heap.size, c, none⟩ = (w.alloc (.cells #[.int .u8 op, .int .u8 r, .int .u8 t, .int .u8 f, .int .u32 k] 203)).cell? ⟨w.heap.size, c, none⟩ := fun c => hw.cell (p := ⟨w.heap.size, c, none⟩) (by simp)
    have hd : ∀ c, w'.cell? ⟨m, c, none⟩ = w.cell? ⟨m, c, none⟩ := fun c => (hw.cell (p := ⟨m, c, none⟩) (by show m < _; omega)).trans (World.cell?_alloc_lt _ _ _ ml)
    refine ⟨?_, ?_, ?_, ?_, ?_, (hd _).trans cs, (hd _).trans cd⟩ <;> (rw [hc, World.cell?_alloc_at _ _ _ _ rfl]; rfl)
  clear cs cd
  go_enter Tryz.func96, Tryz.ntmps96
  go_upto_region 1 with fail
  go_cut [5] from 6 to 17 (fun v w' => v = .bool false ∧ Below (w.heap.size + 1) (w.alloc (.cells #[.int .u8 op, .int .u8 r, .int .u8 t, .int .u8 f, .int .u32 k] 203)) w')
  case first =>
    go_region_held3 (fun w' => w'.cell? ⟨w.heap.size, 0, none⟩ = some (.int .u8 op) ∧ w'.cell? ⟨w.heap.size, 1, none⟩ = some (.int .u8 r) ∧ w'.cell? ⟨w.heap.size, 2, none⟩ = some (.int .u8 t) ∧ w'.cell? ⟨w.heap.size, 3, none⟩ = some (.int .u8 f) ∧ w'.cell? ⟨w.heap.size, 4, none⟩ = some (.int .u32 k) ∧ w'.cell? ⟨m, 7 + r.toNat, none⟩ = some (.bool true) ∧ w'.cell? ⟨m, 0, none⟩ = some (.slice sp sn sc)) (exact HKP.out _ (by repeat (first | with_reducible exact Below.refl _ _ | with_reducible exact HBX.out | with_reducible refine Below.drew ?_ | with_reducible refine Below.alloc ?_ (by first | omega | (simp; done) | (simp; omega)) _))) (first | (go_at_call 119; refine (hU _).mono ?_; rintro e w1 ⟨rfl, hb1⟩; have HBX : Hid (Below (w.heap.size + 1) (w.alloc (.cells #[.int .u8 op, .int .u8 r, .int .u8 t, .int .u8 f, .int .u32 k] 203)) w1) := Below.trans (by repeat (first | with_reducible exact Below.refl _ _ | with_reducible refine Below.drew ?_)) (hb1.mono (by first | omega | (simp; done) | (simp; omega))); obtain ⟨q0, q1, q2, q3, q4, q5, q6⟩ := HKP.out w1 HBX.out; clear hb1))
    all_goals
      go_wp2_with fail
      go_meet
      exact ⟨rfl, by repeat (first | with_reducible exact HBX.out | with_reducible refine Below.drew ?_)⟩
  case rest =>
    obtain ⟨rfl, hB2⟩ := hcut
    obtain ⟨q0, q1, q2, q3, q4, q5, q6⟩ := HKP.out _ hB2
    rename_i wx _
    go_upto_region 3 with fail
    go_cut [19] from 20 to 32 (fun v w' => v = .bool false ∧ Below (w.heap.size + 1) (w.alloc (.cells #[.int .u8 op, .int .u8 r, .int .u8 t, .int .u8 f, .int .u32 k] 203)) w')
    case first =>
      first | (go_region_with (first | (go_at_call 120; refine (hL _).mono ?_; rintro e w2 ⟨rfl, rfl⟩))) | fail
      all_goals
        go_wp2_with fail
        go_meet
        exact ⟨rfl, by repeat (first | with_reducible exact hB2 | with_reducible refine Below.drew ?_ | with_reducible refine Below.alloc ?_ (by have := hB2.size; first | omega | (simp at *; done) | (simp at *; omega)) _)⟩
    case rest =>
      obtain ⟨rfl, hB3⟩ := hcut
      go_wp2_with fail
      go_ret
      exact ⟨rfl, ((Below.refl _ _).alloc (Nat.le_refl _) _).trans (hB3.mono (by omega))⟩

set_option maxHeartbeats 1600000 in
theorem trap_none (x : Ins) (m : Nat) (sp : Option Addr) (sn sc : Nat) (q : Int × Int) (a : St) (w : World) (hb : x.Bd) (hr : x.r < 4) (hM : Mc w m (.slice sp sn sc) q a) (hu : x.uses = false) (hl : x.load = false) :
    Calls Tryz.prog 96 #[.pointer (some ⟨m, 0, none⟩), insV x] w fun e w' => e = .returned .nilIface ∧ Below w.heap.size w w' := by
  have br := hb.r
  have cs := hM.set x.r.toNat (by omega)
  have cd := hM.data
  have ml := hM.lt
  have hU := fun w => uses_is x false w hu
  have hL := fun w => isLoad_is x false w hl
  obtain ⟨sb, hsb⟩ : ∃ sb, a.set.getD x.r.toNat false = sb := ⟨_, rfl⟩
  rw [hsb] at cs
  obtain ⟨op, r, t, f, k⟩ := x
  unfold insV insO at *
  dsimp only at *
  clear hb hu hM hl hsb
  have HKP : Hid (∀ w', Below (w.heap.size + 1) (w.alloc (.cells #[.int .u8 op, .int .u8 r, .int .u8 t, .int .u8 f, .int .u32 k] 203)) w' → (fun w' => w'.cell? ⟨w.heap.size, 0, none⟩ = some (.int .u8 op) ∧ w'.cell? ⟨w.heap.size, 1, none⟩ = some (.int .u8 r) ∧ w'.cell? ⟨w.heap.size, 2, none⟩ = some (.int .u8 t) ∧ w'.cell? ⟨w.heap.size, 3, none⟩ = some (.int .u8 f) ∧ w'.cell? ⟨w.heap.size, 4, none⟩ = some (.int .u32 k) ∧ w'.cell? ⟨m, 7 + r.toNat, none⟩ = some (.bool sb) ∧ w'.cell? ⟨m, 0, none⟩ = some (.slice sp sn sc)) w') := fun w' hw => by
    have hc : ∀ c, w'.cell? ⟨w.heap.size, c, none⟩ = (w.alloc (.cells #[.int .u8 op, .int .u8 r, .int .u8 t, .int .u8 f, .int .u32 k] 203)).cell? ⟨w.heap.size, c, none⟩ := fun c => hw.cell (p := ⟨w.heap.size, c, none⟩) (by simp)
    have hd : ∀ c, w'.cell? ⟨m, c, none⟩ = w.cell? ⟨m, c, none⟩ := fun c => (hw.cell (p := ⟨m, c, none⟩) (by show m < _; omega)).trans (World.cell?_alloc_lt _ _ _ ml)
    refine ⟨?_, ?_, ?_, ?_, ?_, (hd _).trans cs, (hd _).trans cd⟩ <;> (rw [hc, World.cell?_alloc_at _ _ _ _ rfl]; rfl)
  clear cs cd
  go_enter Tryz.func96, Tryz.ntmps96
  go_upto_region 1 with fail
  go_cut [5] from 6 to 17 (fun v w' => v = .bool false ∧ Below (w.heap.size + 1) (w.alloc (.cells #[.int .u8 op, .int .u8 r, .int .u8 t, .int .u8 f, .int .u32 k] 203)) w')
  case first =>
    first | (go_region_with (first | (go_at_call 119; refine (hU _).mono ?_; rintro e w1 ⟨rfl, hb1⟩; have HBX : Hid (Below (w.heap.size + 1) (w.alloc (.cells #[.int .u8 op, .int .u8 r, .int .u8 t, .int .u8 f, .int .u32 k] 203)) w1) := Below.trans (by repeat (first | with_reducible exact Below.refl _ _ | with_reducible refine Below.drew ?_)) (hb1.mono (by first | omega | (simp; done) | (simp; omega))); clear hb1))) | fail
    all_goals
      go_wp2_with fail
      go_meet
      exact ⟨rfl, by repeat (first | with_reducible exact HBX.out | with_reducible refine Below.drew ?_)⟩
  case rest =>
    obtain ⟨rfl, hB2⟩ := hcut
    obtain ⟨q0, q1, q2, q3, q4, q5, q6⟩ := HKP.out _ hB2
    rename_i wx _
    go_upto_region 3 with fail
    go_cut [19] from 20 to 32 (fun v w' => v = .bool false ∧ Below (w.heap.size + 1) (w.alloc (.cells #[.int .u8 op, .int .u8 r, .int .u8 t, .int .u8 f, .int .u32 k] 203)) w')
    case first =>
      first | (go_region_with (first | (go_at_call 120; refine (hL _).mono ?_; rintro e w2 ⟨rfl, rfl⟩))) | fail
      all_goals
        go_wp2_with fail
        go_meet
        exact ⟨rfl, by repeat (first | with_reducible exact hB2 | with_reducible refine Below.drew ?_ | with_reducible refine Below.alloc ?_ (by have := hB2.size; first | omega | (simp at *; done) | (simp at *; omega)) _)⟩
    case rest =>
      obtain ⟨rfl, hB3⟩ := hcut
      go_wp2_with fail
      go_ret
      exact ⟨rfl, ((Below.refl _ _).alloc (Nat.le_refl _) _).trans (hB3.mono (by omega))⟩
set_option maxHeartbeats 1600000 in
theorem trap_load (x : Ins) (m : Nat) (sp : Option Addr) (sn sc : Nat) (q : Int × Int) (a : St) (w : World) (hb : x.Bd) (hr : x.r < 4) (hM : Mc w m (.slice sp sn sc) q a) (hu : x.uses = false) (hl : x.load = true) (hn : sn ≤ 4294967295) :
    Calls Tryz.prog 96 #[.pointer (some ⟨m, 0, none⟩), insV x] w fun e w' => e = .returned (if decide ((sn : Int) < x.wide) then .iface 22 (.int .i64 22) else .nilIface) ∧ Below w.heap.size w w' := by
  have br := hb.r
  have cs := hM.set x.r.toNat (by omega)
  have cd := hM.data
  have ml := hM.lt
  have hU := fun w => uses_is x false w hu
  have hL := fun w => isLoad_is x true w hl
  have hE := fun w => loadEnd_any x hb w hl
  have bw : 0 ≤ x.wide ∧ x.wide ≤ 4294967299 := by have := hb.k; unfold Ins.wide; repeat' split
                                                   all_goals omega
  obtain ⟨wd, hwd⟩ : ∃ wd, x.wide = wd := ⟨_, rfl⟩
  rw [hwd] at hE bw
  rw [hwd]
  obtain ⟨z, hz⟩ : ∃ z, decide ((sn : Int) < wd) = z := ⟨_, rfl⟩
  rw [hz]
  have HZ : Hid (decide ((sn : Int) < wd) = z) := hz
  have HWR : Hid (IntKind.u64.wrap (sn : Int) = sn) := by
    show IntKind.u64.wrap (sn : Int) = sn
    rw [IntKind.wrap_u64]; omega
  obtain ⟨sb, hsb⟩ : ∃ sb, a.set.getD x.r.toNat false = sb := ⟨_, rfl⟩
  rw [hsb] at cs
  obtain ⟨op, r, t, f, k⟩ := x
  unfold insV insO at *
  dsimp only at *
  clear hb hu hM hl hsb hwd hz
  have HKP : Hid (∀ w', Below (w.heap.size + 1) (w.alloc (.cells #[.int .u8 op, .int .u8 r, .int .u8 t, .int .u8 f, .int .u32 k] 203)) w' → (fun w' => w'.cell? ⟨w.heap.size, 0, none⟩ = some (.int .u8 op) ∧ w'.cell? ⟨w.heap.size, 1, none⟩ = some (.int .u8 r) ∧ w'.cell? ⟨w.heap.size, 2, none⟩ = some (.int .u8 t) ∧ w'.cell? ⟨w.heap.size, 3, none⟩ = some (.int .u8 f) ∧ w'.cell? ⟨w.heap.size, 4, none⟩ = some (.int .u32 k) ∧ w'.cell? ⟨m, 7 + r.toNat, none⟩ = some (.bool sb) ∧ w'.cell? ⟨m, 0, none⟩ = some (.slice sp sn sc)) w') := fun w' hw => by
    have hc : ∀ c, w'.cell? ⟨w.heap.size, c, none⟩ = (w.alloc (.cells #[.int .u8 op, .int .u8 r, .int .u8 t, .int .u8 f, .int .u32 k] 203)).cell? ⟨w.heap.size, c, none⟩ := fun c => hw.cell (p := ⟨w.heap.size, c, none⟩) (by simp)
    have hd : ∀ c, w'.cell? ⟨m, c, none⟩ = w.cell? ⟨m, c, none⟩ := fun c => (hw.cell (p := ⟨m, c, none⟩) (by show m < _; omega)).trans (World.cell?_alloc_lt _ _ _ ml)
    refine ⟨?_, ?_, ?_, ?_, ?_, (hd _).trans cs, (hd _).trans cd⟩ <;> (rw [hc, World.cell?_alloc_at _ _ _ _ rfl]; rfl)
  clear cs cd
  go_enter Tryz.func96, Tryz.ntmps96
  go_upto_region 1 with fail
  go_cut [5] from 6 to 17 (fun v w' => v = .bool false ∧ Below (w.heap.size + 1) (w.alloc (.cells #[.int .u8 op, .int .u8 r, .int .u8 t, .int .u8 f, .int .u32 k] 203)) w')
  case first =>
    first | (go_region_with (first | (go_at_call 119; refine (hU _).mono ?_; rintro e w1 ⟨rfl, hb1⟩; have HBX : Hid (Below (w.heap.size + 1) (w.alloc (.cells #[.int .u8 op, .int .u8 r, .int .u8 t, .int .u8 f, .int .u32 k] 203)) w1) := Below.trans (by repeat (first | with_reducible exact Below.refl _ _ | with_reducible refine Below.drew ?_)) (hb1.mono (by first | omega | (simp; done) | (simp; omega))); clear hb1))) | fail
    all_goals
      go_wp2_with fail
      go_meet
      exact ⟨rfl, by repeat (first | with_reducible exact HBX.out | with_reducible refine Below.drew ?_)⟩
  case rest =>
    obtain ⟨rfl, hB2⟩ := hcut
    obtain ⟨q0, q1, q2, q3, q4, q5, q6⟩ := HKP.out _ hB2
    rename_i wx _
    go_upto_region 3 with fail
    go_cut [19] from 20 to 32 (fun v w' => v = .bool z ∧ Below (w.heap.size + 1) (w.alloc (.cells #[.int .u8 op, .int .u8 r, .int .u8 t, .int .u8 f, .int .u32 k] 203)) w')
    case first =>
      go_region_held3 (fun w' => w'.cell? ⟨w.heap.size, 0, none⟩ = some (.int .u8 op) ∧ w'.cell? ⟨w.heap.size, 1, none⟩ = some (.int .u8 r) ∧ w'.cell? ⟨w.heap.size, 2, none⟩ = some (.int .u8 t) ∧ w'.cell? ⟨w.heap.size, 3, none⟩ = some (.int .u8 f) ∧ w'.cell? ⟨w.heap.size, 4, none⟩ = some (.int .u32 k) ∧ w'.cell? ⟨m, 7 + r.toNat, none⟩ = some (.bool sb) ∧ w'.cell? ⟨m, 0, none⟩ = some (.slice sp sn sc)) (exact HKP.out _ (by repeat (first | with_reducible exact hB2 | with_reducible refine Below.drew ?_ | with_reducible refine Below.alloc ?_ (by have := hB2.size; first | omega | (simp at *; done) | (simp at *; omega)) _))) (first | (go_at_call 120; refine (hL _).mono ?_; rintro e w2 ⟨rfl, rfl⟩) | (go_at_call 121; refine (hE _).mono ?_; rintro e w2 ⟨rfl, rfl⟩))
      all_goals
        go_wp2_with fail
        go_meet
        exact ⟨by rw [← HZ.out, HWR.out], by repeat (first | with_reducible exact hB2 | with_reducible refine Below.drew ?_ | with_reducible refine Below.alloc ?_ (by have := hB2.size; first | omega | (simp at *; done) | (simp at *; omega)) _)⟩
    case rest =>
      obtain ⟨rfl, hB3⟩ := hcut
      clear HZ HWR
      cases z
      all_goals
        go_wp2_with fail
        go_ret
        exact ⟨rfl, ((Below.refl _ _).alloc (Nat.le_refl _) _).trans (hB3.mono (by omega))⟩
end Go.Proofs.YtclpnafiiobfhabGreatDoor
namespace Go.Proofs.YtclpnafiiobfhabGreatDoor
open Go.RowKit
set_option linter.unusedVariables false
set_option linter.unusedSimpArgs false
theorem Tch.drew' {g : Nat} {a w : World} (h : Tch g a w) : Tch g a w.drew := ⟨h.os, h.tape, h.output, h.size, h.block⟩

set_option maxHeartbeats 1600000 in
theorem do_1 (r t f : Int) (kn : Nat) (m : Nat) (db doff dc : Nat) (d : ByteArray) (q : Int × Int) (a : St) (w : World) (br : 0 ≤ r ∧ r < 4) (bt : 0 ≤ t ∧ t ≤ 255) (bf : 0 ≤ f ∧ f ≤ 255) (bk : (0 : Int) ≤ kn ∧ (kn : Int) ≤ 4294967295) (ha : a.Ok) (hM : Mc w m (.slice (some ⟨db, doff, none⟩) d.size dc) q a) (hr : Row w db doff d) (hdb : db < w.heap.size) (hdm : db ≠ m) (hw : (kn : Int) + 1 ≤ d.size) (hdc : d.size ≤ dc) (hmx : dc ≤ maxLen) :
    Calls Tryz.prog 97 #[.pointer (some ⟨m, 0, none⟩), .agg #[.int .u8 1, .int .u8 r, .int .u8 t, .int .u8 f, .int .u32 kn]] w fun e w' => e = .returned (.int .u32 0) ∧ Mc w' m (.slice (some ⟨db, doff, none⟩) d.size dc) q (a.put ⟨1, r, t, f, kn⟩ (numv d kn 1)) ∧ Tch m w w' := by
  have ml := hM.lt
  have cdat := hM.data
  have HM : Hid (Mc w m (.slice (some ⟨db, doff, none⟩) d.size dc) q a) := hM
  have HAO : Hid a.Ok := ha
  have HKP : Hid (∀ u, Below (w.heap.size + 1) (w.alloc (.cells #[.int .u8 1, .int .u8 r, .int .u8 t, .int .u8 f, .int .u32 kn] 203)) u → (fun w' => w'.cell? ⟨w.heap.size, 0, none⟩ = some (.int .u8 1) ∧ w'.cell? ⟨w.heap.size, 1, none⟩ = some (.int .u8 r) ∧ w'.cell? ⟨w.heap.size, 2, none⟩ = some (.int .u8 t) ∧ w'.cell? ⟨w.heap.size, 3, none⟩ = some (.int .u8 f) ∧ w'.cell? ⟨w.heap.size, 4, none⟩ = some (.int .u32 kn) ∧ w'.cell? ⟨m, 0, none⟩ = some ((.slice (some ⟨db, doff, none⟩) d.size dc))) u) := fun u hw => by
    have hc : ∀ c, u.cell? ⟨w.heap.size, c, none⟩ = (w.alloc (.cells #[.int .u8 1, .int .u8 r, .int .u8 t, .int .u8 f, .int .u32 kn] 203)).cell? ⟨w.heap.size, c, none⟩ := fun c => hw.cell (p := ⟨w.heap.size, c, none⟩) (by simp)
    have hd : ∀ c, u.cell? ⟨m, c, none⟩ = w.cell? ⟨m, c, none⟩ := fun c => (hw.cell (p := ⟨m, c, none⟩) (by show m < _; omega)).trans (World.cell?_alloc_lt _ _ _ ml)
    refine ⟨?_, ?_, ?_, ?_, ?_, (hd _).trans cdat⟩ <;> (rw [hc, World.cell?_alloc_at _ _ _ _ rfl]; rfl)
  have HKP2 : Hid (∀ v v' u, Below (w.heap.size + 1) (((w.setCell ⟨m, 3 + r.toNat, none⟩ v).setCell ⟨m, 7 + r.toNat, none⟩ v').alloc (.cells #[.int .u8 1, .int .u8 r, .int .u8 t, .int .u8 f, .int .u32 kn] 203)) u → (fun w' => w'.cell? ⟨w.heap.size, 0, none⟩ = some (.int .u8 1) ∧ w'.cell? ⟨w.heap.size, 1, none⟩ = some (.int .u8 r) ∧ w'.cell? ⟨w.heap.size, 2, none⟩ = some (.int .u8 t) ∧ w'.cell? ⟨w.heap.size, 3, none⟩ = some (.int .u8 f) ∧ w'.cell? ⟨w.heap.size, 4, none⟩ = some (.int .u32 kn) ∧ w'.cell? ⟨m, 0, none⟩ = some ((.slice (some ⟨db, doff, none⟩) d.size dc))) u) := fun v v' u hw => by
    have hz : ((w.setCell ⟨m, 3 + r.toNat, none⟩ v).setCell ⟨m, 7 + r.toNat, none⟩ v').heap.size = w.heap.size := by simp [World.setCell]
    have hc : ∀ c, u.cell? ⟨w.heap.size, c, none⟩ = (((w.setCell ⟨m, 3 + r.toNat, none⟩ v).setCell ⟨m, 7 + r.toNat, none⟩ v').alloc (.cells #[.int .u8 1, .int .u8 r, .int .u8 t, .int .u8 f, .int .u32 kn] 203)).cell? ⟨w.heap.size, c, none⟩ := fun c => hw.cell (p := ⟨w.heap.size, c, none⟩) (by simp)
    have hd : ∀ c, c < 3 → u.cell? ⟨m, c, none⟩ = w.cell? ⟨m, c, none⟩ := fun c hc => by
      rw [hw.cell (p := ⟨m, c, none⟩) (by show m < _; omega), World.cell?_alloc_lt _ _ _ (by rw [hz]; exact ml), cell_set_off _ _ _ _ _ (by omega), cell_set_off _ _ _ _ _ (by omega)]
    refine ⟨?_, ?_, ?_, ?_, ?_, (hd _ (by omega)).trans cdat⟩ <;> (rw [hc, World.cell?_alloc_at _ _ _ _ hz.symm]; rfl)
  have HMC : Hid (∀ u, Below (w.heap.size + 1) (w.alloc (.cells #[.int .u8 1, .int .u8 r, .int .u8 t, .int .u8 f, .int .u32 kn] 203)) u → Mc u m (.slice (some ⟨db, doff, none⟩) d.size dc) q a ∧ Tch m w u) := fun u hw => by
    have hb : Below w.heap.size w u := ((Below.refl _ _).alloc (Nat.le_refl _) _).trans (hw.mono (by omega))
    exact ⟨HM.out.below hb, Tch.of hb⟩
  have HMP : Hid (∀ v u, Below (w.heap.size + 1) (((w.setCell ⟨m, 3 + r.toNat, none⟩ (.int .u32 v)).setCell ⟨m, 7 + r.toNat, none⟩ (.bool true)).alloc (.cells #[.int .u8 1, .int .u8 r, .int .u8 t, .int .u8 f, .int .u32 kn] 203)) u → Mc u m (.slice (some ⟨db, doff, none⟩) d.size dc) q (a.put ⟨1, r, t, f, kn⟩ v) ∧ Tch m w u) := fun v u hw => by
    have g := HM.out.put ha ⟨1, r, t, f, kn⟩ ⟨br.1, br.2⟩ v
    have g2 : Tch m w ((w.setCell ⟨m, 3 + r.toNat, none⟩ (.int .u32 v)).setCell ⟨m, 7 + r.toNat, none⟩ (.bool true)) := ((Tch.refl _ _).set _ _).set _ _
    have hz : ((w.setCell ⟨m, 3 + r.toNat, none⟩ (.int .u32 v)).setCell ⟨m, 7 + r.toNat, none⟩ (.bool true)).heap.size = w.heap.size := by simp [World.setCell]
    dsimp only at g
    generalize ((w.setCell ⟨m, 3 + r.toNat, none⟩ (.int .u32 v)).setCell ⟨m, 7 + r.toNat, none⟩ (.bool true)) = w9 at *
    have hb : Below w9.heap.size w9 u := ((Below.refl _ _).alloc (Nat.le_refl _) _).trans (hw.mono (by omega))
    exact ⟨g.below hb, g2.trans (Tch.of hb)⟩
  unfold maxLen at hmx
  have HR : Hid (Row w db doff d) := hr
  have hE := fun w => loadEnd_any ⟨1, r, t, f, kn⟩ ⟨by simp, by dsimp only; omega, by dsimp only; exact bt, by dsimp only; exact bf, bk⟩ w (by rfl)
  unfold insV insO Ins.wide at hE
  simp only [if_true, if_false] at hE
  have s0 : (kn : Int) ≤ (kn : Int) + 1 := by omega
  have s1 : (kn : Int) + 1 ≤ (dc : Int) := by omega
  have s2 : dc ≠ kn := by omega
  have HNA : Hid (∀ u, Below (w.heap.size + 1) (w.alloc (.cells #[.int .u8 1, .int .u8 r, .int .u8 t, .int .u8 f, .int .u32 kn] 203)) u → ∀ i, i < 1 → u.cell? ⟨db, doff + kn + i, none⟩ = some (.int .u8 (nth d (kn + i)))) := fun u hw i hi => by
    rw [hw.cell (p := ⟨db, doff + kn + i, none⟩) (by show db < _; omega), World.cell?_alloc_lt _ _ _ (by exact hdb), Nat.add_assoc]
    exact HR.out (kn + i) (by omega)
  clear hM cdat hr ha
  go_enter Tryz.func97, Tryz.ntmps97
  go_upto_region 5 with fail
  go_region_held3 (fun w' => w'.cell? ⟨w.heap.size, 0, none⟩ = some (.int .u8 1) ∧ w'.cell? ⟨w.heap.size, 1, none⟩ = some (.int .u8 r) ∧ w'.cell? ⟨w.heap.size, 2, none⟩ = some (.int .u8 t) ∧ w'.cell? ⟨w.heap.size, 3, none⟩ = some (.int .u8 f) ∧ w'.cell? ⟨w.heap.size, 4, none⟩ = some (.int .u32 kn) ∧ w'.cell? ⟨m, 0, none⟩ = some ((.slice (some ⟨db, doff, none⟩) d.size dc))) (first | (refine HKP.out _ ?_; (repeat (first | with_reducible exact Below.refl _ _ | with_reducible refine Below.drew ?_ | with_reducible refine below_drewN ?_ _ | with_reducible refine Below.alloc ?_ (by first | omega | (simp; done) | (simp; omega) | (simp [World.setCell]; done) | (simp [World.setCell]; omega)) _)); done) | (refine HKP2.out (.int .u32 (numv d kn 1)) (.bool true) _ ?_; (repeat (first | with_reducible exact Below.refl _ _ | with_reducible refine Below.drew ?_ | with_reducible refine below_drewN ?_ _ | with_reducible refine Below.alloc ?_ (by first | omega | (simp; done) | (simp; omega) | (simp [World.setCell]; done) | (simp [World.setCell]; omega)) _)); done)) (first | (go_at_call 121; refine (hE _).mono ?_; rintro e w2 ⟨rfl, rfl⟩) | (go_at_call 123; (first | rw [show ((kn : Int) + 1).toNat - kn = 1 by omega] | skip); refine (number_any d db (doff + kn) kn 1 _ _ (by omega) (HNA.out _ (by repeat (first | with_reducible exact Below.refl _ _ | with_reducible refine Below.drew ?_ | with_reducible refine below_drewN ?_ _ | with_reducible refine Below.alloc ?_ (by first | omega | (simp; done) | (simp; omega) | (simp [World.setCell]; done) | (simp [World.setCell]; omega)) _)))).mono ?_; rintro e w2 ⟨rfl, rfl⟩) | (go_at_call 122; refine (put_any r _ (a.reg.getD r.toNat 0) (a.set.getD r.toNat false) m _ (by omega) (by omega) ?hc ?hd ?f0 ?f1).mono ?_; (case hc => exact (HMC.out _ (by repeat (first | with_reducible exact Below.refl _ _ | with_reducible refine Below.drew ?_ | with_reducible refine below_drewN ?_ _ | with_reducible refine Below.alloc ?_ (by first | omega | (simp; done) | (simp; omega) | (simp [World.setCell]; done) | (simp [World.setCell]; omega)) _))).1.reg _ (by omega)); (case hd => exact (HMC.out _ (by repeat (first | with_reducible exact Below.refl _ _ | with_reducible refine Below.drew ?_ | with_reducible refine below_drewN ?_ _ | with_reducible refine Below.alloc ?_ (by first | omega | (simp; done) | (simp; omega) | (simp [World.setCell]; done) | (simp [World.setCell]; omega)) _))).1.set _ (by omega)); (case f0 => exact (HMC.out _ (by repeat (first | with_reducible exact Below.refl _ _ | with_reducible refine Below.drew ?_ | with_reducible refine below_drewN ?_ _ | with_reducible refine Below.alloc ?_ (by first | omega | (simp; done) | (simp; omega) | (simp [World.setCell]; done) | (simp [World.setCell]; omega)) _))).1.froz _); (case f1 => exact (HMC.out _ (by repeat (first | with_reducible exact Below.refl _ _ | with_reducible refine Below.drew ?_ | with_reducible refine below_drewN ?_ _ | with_reducible refine Below.alloc ?_ (by first | omega | (simp; done) | (simp; omega) | (simp [World.setCell]; done) | (simp [World.setCell]; omega)) _))).1.froz _); rintro e w' ⟨rfl, rfl⟩))
  all_goals
    go_wp2_with fail
    go_ret
    refine ⟨rfl, ?_, ?_⟩
    · exact (HMP.out _ _ (by repeat (first | with_reducible exact Below.refl _ _ | with_reducible refine Below.drew ?_ | with_reducible refine below_drewN ?_ _ | with_reducible refine Below.alloc ?_ (by first | omega | (simp; done) | (simp; omega) | (simp [World.setCell]; done) | (simp [World.setCell]; omega)) _))).1
    · exact (HMP.out _ _ (by repeat (first | with_reducible exact Below.refl _ _ | with_reducible refine Below.drew ?_ | with_reducible refine below_drewN ?_ _ | with_reducible refine Below.alloc ?_ (by first | omega | (simp; done) | (simp; omega) | (simp [World.setCell]; done) | (simp [World.setCell]; omega)) _))).2

set_option maxHeartbeats 1600000 in
theorem do_2 (r t f : Int) (kn : Nat) (m : Nat) (db doff dc : Nat) (d : ByteArray) (q : Int × Int) (a : St) (w : World) (br : 0 ≤ r ∧ r < 4) (bt : 0 ≤ t ∧ t ≤ 255) (bf : 0 ≤ f ∧ f ≤ 255) (bk : (0 : Int) ≤ kn ∧ (kn : Int) ≤ 4294967295) (ha : a.Ok) (hM : Mc w m (.slice (some ⟨db, doff, none⟩) d.size dc) q a) (hr : Row w db doff d) (hdb : db < w.heap.size) (hdm : db ≠ m) (hw : (kn : Int) + 2 ≤ d.size) (hdc : d.size ≤ dc) (hmx : dc ≤ maxLen) :
    Calls Tryz.prog 97 #[.pointer (some ⟨m, 0, none⟩), .agg #[.int .u8 2, .int .u8 r, .int .u8 t, .int .u8 f, .int .u32 kn]] w fun e w' => e = .returned (.int .u32 0) ∧ Mc w' m (.slice (some ⟨db, doff, none⟩) d.size dc) q (a.put ⟨2, r, t, f, kn⟩ (numv d kn 2)) ∧ Tch m w w' := by
  have ml := hM.lt
  have cdat := hM.data
  have HM : Hid (Mc w m (.slice (some ⟨db, doff, none⟩) d.size dc) q a) := hM
  have HAO : Hid a.Ok := ha
  have HKP : Hid (∀ u, Below (w.heap.size + 1) (w.alloc (.cells #[.int .u8 2, .int .u8 r, .int .u8 t, .int .u8 f, .int .u32 kn] 203)) u → (fun w' => w'.cell? ⟨w.heap.size, 0, none⟩ = some (.int .u8 2) ∧ w'.cell? ⟨w.heap.size, 1, none⟩ = some (.int .u8 r) ∧ w'.cell? ⟨w.heap.size, 2, none⟩ = some (.int .u8 t) ∧ w'.cell? ⟨w.heap.size, 3, none⟩ = some (.int .u8 f) ∧ w'.cell? ⟨w.heap.size, 4, none⟩ = some (.int .u32 kn) ∧ w'.cell? ⟨m, 0, none⟩ = some ((.slice (some ⟨db, doff, none⟩) d.size dc))) u) := fun u hw => by
    have hc : ∀ c, u.cell? ⟨w.heap.size, c, none⟩ = (w.alloc (.cells #[.int .u8 2, .int .u8 r, .int .u8 t, .int .u8 f, .int .u32 kn] 203)).cell? ⟨w.heap.size, c, none⟩ := fun c => hw.cell (p := ⟨w.heap.size, c, none⟩) (by simp)
    have hd : ∀ c, u.cell? ⟨m, c, none⟩ = w.cell? ⟨m, c, none⟩ := fun c => (hw.cell (p := ⟨m, c, none⟩) (by show m < _; omega)).trans (World.cell?_alloc_lt _ _ _ ml)
    refine ⟨?_, ?_, ?_, ?_, ?_, (hd _).trans cdat⟩ <;> (rw [hc, World.cell?_alloc_at _ _ _ _ rfl]; rfl)
  have HKP2 : Hid (∀ v v' u, Below (w.heap.size + 1) (((w.setCell ⟨m, 3 + r.toNat, none⟩ v).setCell ⟨m, 7 + r.toNat, none⟩ v').alloc (.cells #[.int .u8 2, .int .u8 r, .int .u8 t, .int .u8 f, .int .u32 kn] 203)) u → (fun w' => w'.cell? ⟨w.heap.size, 0, none⟩ = some (.int .u8 2) ∧ w'.cell? ⟨w.heap.size, 1, none⟩ = some (.int .u8 r) ∧ w'.cell? ⟨w.heap.size, 2, none⟩ = some (.int .u8 t) ∧ w'.cell? ⟨w.heap.size, 3, none⟩ = some (.int .u8 f) ∧ w'.cell? ⟨w.heap.size, 4, none⟩ = some (.int .u32 kn) ∧ w'.cell? ⟨m, 0, none⟩ = some ((.slice (some ⟨db, doff, none⟩) d.size dc))) u) := fun v v' u hw => by
    have hz : ((w.setCell ⟨m, 3 + r.toNat, none⟩ v).setCell ⟨m, 7 + r.toNat, none⟩ v').heap.size = w.heap.size := by simp [World.setCell]
    have hc : ∀ c, u.cell? ⟨w.heap.size, c, none⟩ = (((w.setCell ⟨m, 3 + r.toNat, none⟩ v).setCell ⟨m, 7 + r.toNat, none⟩ v').alloc (.cells #[.int .u8 2, .int .u8 r, .int .u8 t, .int .u8 f, .int .u32 kn] 203)).cell? ⟨w.heap.size, c, none⟩ := fun c => hw.cell (p := ⟨w.heap.size, c, none⟩) (by simp)
    have hd : ∀ c, c < 3 → u.cell? ⟨m, c, none⟩ = w.cell? ⟨m, c, none⟩ := fun c hc => by
      rw [hw.cell (p := ⟨m, c, none⟩) (by show m < _; omega), World.cell?_alloc_lt _ _ _ (by rw [hz]; exact ml), cell_set_off _ _ _ _ _ (by omega), cell_set_off _ _ _ _ _ (by omega)]
    refine ⟨?_, ?_, ?_, ?_, ?_, (hd _ (by omega)).trans cdat⟩ <;> (rw [hc, World.cell?_alloc_at _ _ _ _ hz.symm]; rfl)
  have HMC : Hid (∀ u, Below (w.heap.size + 1) (w.alloc (.cells #[.int .u8 2, .int .u8 r, .int .u8 t, .int .u8 f, .int .u32 kn] 203)) u → Mc u m (.slice (some ⟨db, doff, none⟩) d.size dc) q a ∧ Tch m w u) := fun u hw => by
    have hb : Below w.heap.size w u := ((Below.refl _ _).alloc (Nat.le_refl _) _).trans (hw.mono (by omega))
    exact ⟨HM.out.below hb, Tch.of hb⟩
  have HMP : Hid (∀ v u, Below (w.heap.size + 1) (((w.setCell ⟨m, 3 + r.toNat, none⟩ (.int .u32 v)).setCell ⟨m, 7 + r.toNat, none⟩ (.bool true)).alloc (.cells #[.int .u8 2, .int .u8 r, .int .u8 t, .int .u8 f, .int .u32 kn] 203)) u → Mc u m (.slice (some ⟨db, doff, none⟩) d.size dc) q (a.put ⟨2, r, t, f, kn⟩ v) ∧ Tch m w u) := fun v u hw => by
    have g := HM.out.put ha ⟨2, r, t, f, kn⟩ ⟨br.1, br.2⟩ v
    have g2 : Tch m w ((w.setCell ⟨m, 3 + r.toNat, none⟩ (.int .u32 v)).setCell ⟨m, 7 + r.toNat, none⟩ (.bool true)) := ((Tch.refl _ _).set _ _).set _ _
    have hz : ((w.setCell ⟨m, 3 + r.toNat, none⟩ (.int .u32 v)).setCell ⟨m, 7 + r.toNat, none⟩ (.bool true)).heap.size = w.heap.size := by simp [World.setCell]
    dsimp only at g
    generalize ((w.setCell ⟨m, 3 + r.toNat, none⟩ (.int .u32 v)).setCell ⟨m, 7 + r.toNat, none⟩ (.bool true)) = w9 at *
    have hb : Below w9.heap.size w9 u := ((Below.refl _ _).alloc (Nat.le_refl _) _).trans (hw.mono (by omega))
    exact ⟨g.below hb, g2.trans (Tch.of hb)⟩
  unfold maxLen at hmx
  have HR : Hid (Row w db doff d) := hr
  have hE := fun w => loadEnd_any ⟨2, r, t, f, kn⟩ ⟨by simp, by dsimp only; omega, by dsimp only; exact bt, by dsimp only; exact bf, bk⟩ w (by rfl)
  unfold insV insO Ins.wide at hE
  simp only [show ¬ (2 : Int) = 1 by decide, if_true, if_false] at hE
  have s0 : (kn : Int) ≤ (kn : Int) + 2 := by omega
  have s1 : (kn : Int) + 2 ≤ (dc : Int) := by omega
  have s2 : dc ≠ kn := by omega
  have HNA : Hid (∀ u, Below (w.heap.size + 1) (w.alloc (.cells #[.int .u8 2, .int .u8 r, .int .u8 t, .int .u8 f, .int .u32 kn] 203)) u → ∀ i, i < 2 → u.cell? ⟨db, doff + kn + i, none⟩ = some (.int .u8 (nth d (kn + i)))) := fun u hw i hi => by
    rw [hw.cell (p := ⟨db, doff + kn + i, none⟩) (by show db < _; omega), World.cell?_alloc_lt _ _ _ (by exact hdb), Nat.add_assoc]
    exact HR.out (kn + i) (by omega)
  clear hM cdat hr ha
  go_enter Tryz.func97, Tryz.ntmps97
  go_upto_region 5 with fail
  go_region_held3 (fun w' => w'.cell? ⟨w.heap.size, 0, none⟩ = some (.int .u8 2) ∧ w'.cell? ⟨w.heap.size, 1, none⟩ = some (.int .u8 r) ∧ w'.cell? ⟨w.heap.size, 2, none⟩ = some (.int .u8 t) ∧ w'.cell? ⟨w.heap.size, 3, none⟩ = some (.int .u8 f) ∧ w'.cell? ⟨w.heap.size, 4, none⟩ = some (.int .u32 kn) ∧ w'.cell? ⟨m, 0, none⟩ = some ((.slice (some ⟨db, doff, none⟩) d.size dc))) (first | (refine HKP.out _ ?_; (repeat (first | with_reducible exact Below.refl _ _ | with_reducible refine Below.drew ?_ | with_reducible refine below_drewN ?_ _ | with_reducible refine Below.alloc ?_ (by first | omega | (simp; done) | (simp; omega) | (simp [World.setCell]; done) | (simp [World.setCell]; omega)) _)); done) | (refine HKP2.out (.int .u32 (numv d kn 2)) (.bool true) _ ?_; (repeat (first | with_reducible exact Below.refl _ _ | with_reducible refine Below.drew ?_ | with_reducible refine below_drewN ?_ _ | with_reducible refine Below.alloc ?_ (by first | omega | (simp; done) | (simp; omega) | (simp [World.setCell]; done) | (simp [World.setCell]; omega)) _)); done)) (first | (go_at_call 121; refine (hE _).mono ?_; rintro e w2 ⟨rfl, rfl⟩) | (go_at_call 123; (first | rw [show ((kn : Int) + 2).toNat - kn = 2 by omega] | skip); refine (number_any d db (doff + kn) kn 2 _ _ (by omega) (HNA.out _ (by repeat (first | with_reducible exact Below.refl _ _ | with_reducible refine Below.drew ?_ | with_reducible refine below_drewN ?_ _ | with_reducible refine Below.alloc ?_ (by first | omega | (simp; done) | (simp; omega) | (simp [World.setCell]; done) | (simp [World.setCell]; omega)) _)))).mono ?_; rintro e w2 ⟨rfl, rfl⟩) | (go_at_call 122; refine (put_any r _ (a.reg.getD r.toNat 0) (a.set.getD r.toNat false) m _ (by omega) (by omega) ?hc ?hd ?f0 ?f1).mono ?_; (case hc => exact (HMC.out _ (by repeat (first | with_reducible exact Below.refl _ _ | with_reducible refine Below.drew ?_ | with_reducible refine below_drewN ?_ _ | with_reducible refine Below.alloc ?_ (by first | omega | (simp; done) | (simp; omega) | (simp [World.setCell]; done) | (simp [World.setCell]; omega)) _))).1.reg _ (by omega)); (case hd => exact (HMC.out _ (by repeat (first | with_reducible exact Below.refl _ _ | with_reducible refine Below.drew ?_ | with_reducible refine below_drewN ?_ _ | with_reducible refine Below.alloc ?_ (by first | omega | (simp; done) | (simp; omega) | (simp [World.setCell]; done) | (simp [World.setCell]; omega)) _))).1.set _ (by omega)); (case f0 => exact (HMC.out _ (by repeat (first | with_reducible exact Below.refl _ _ | with_reducible refine Below.drew ?_ | with_reducible refine below_drewN ?_ _ | with_reducible refine Below.alloc ?_ (by first | omega | (simp; done) | (simp; omega) | (simp [World.setCell]; done) | (simp [World.setCell]; omega)) _))).1.froz _); (case f1 => exact (HMC.out _ (by repeat (first | with_reducible exact Below.refl _ _ | with_reducible refine Below.drew ?_ | with_reducible refine below_drewN ?_ _ | with_reducible refine Below.alloc ?_ (by first | omega | (simp; done) | (simp; omega) | (simp [World.setCell]; done) | (simp [World.setCell]; omega)) _))).1.froz _); rintro e w' ⟨rfl, rfl⟩))
  all_goals
    go_wp2_with fail
    go_ret
    refine ⟨rfl, ?_, ?_⟩
    · exact (HMP.out _ _ (by repeat (first | with_reducible exact Below.refl _ _ | with_reducible refine Below.drew ?_ | with_reducible refine below_drewN ?_ _ | with_reducible refine Below.alloc ?_ (by first | omega | (simp; done) | (simp; omega) | (simp [World.setCell]; done) | (simp [World.setCell]; omega)) _))).1
    · exact (HMP.out _ _ (by repeat (first | with_reducible exact Below.refl _ _ | with_reducible refine Below.drew ?_ | with_reducible refine below_drewN ?_ _ | with_reducible refine Below.alloc ?_ (by first | omega | (simp; done) | (simp; omega) | (simp [World.setCell]; done) | (simp [World.setCell]; omega)) _))).2

set_option maxHeartbeats 1600000 in
theorem do_3 (r t f : Int) (kn : Nat) (m : Nat) (db doff dc : Nat) (d : ByteArray) (q : Int × Int) (a : St) (w : World) (br : 0 ≤ r ∧ r < 4) (bt : 0 ≤ t ∧ t ≤ 255) (bf : 0 ≤ f ∧ f ≤ 255) (bk : (0 : Int) ≤ kn ∧ (kn : Int) ≤ 4294967295) (ha : a.Ok) (hM : Mc w m (.slice (some ⟨db, doff, none⟩) d.size dc) q a) (hr : Row w db doff d) (hdb : db < w.heap.size) (hdm : db ≠ m) (hw : (kn : Int) + 4 ≤ d.size) (hdc : d.size ≤ dc) (hmx : dc ≤ maxLen) :
    Calls Tryz.prog 97 #[.pointer (some ⟨m, 0, none⟩), .agg #[.int .u8 3, .int .u8 r, .int .u8 t, .int .u8 f, .int .u32 kn]] w fun e w' => e = .returned (.int .u32 0) ∧ Mc w' m (.slice (some ⟨db, doff, none⟩) d.size dc) q (a.put ⟨3, r, t, f, kn⟩ (numv d kn 4)) ∧ Tch m w w' := by
  have ml := hM.lt
  have cdat := hM.data
  have HM : Hid (Mc w m (.slice (some ⟨db, doff, none⟩) d.size dc) q a) := hM
  have HAO : Hid a.Ok := ha
  have HKP : Hid (∀ u, Below (w.heap.size + 1) (w.alloc (.cells #[.int .u8 3, .int .u8 r, .int .u8 t, .int .u8 f, .int .u32 kn] 203)) u → (fun w' => w'.cell? ⟨w.heap.size, 0, none⟩ = some (.int .u8 3) ∧ w'.cell? ⟨w.heap.size, 1, none⟩ = some (.int .u8 r) ∧ w'.cell? ⟨w.heap.size, 2, none⟩ = some (.int .u8 t) ∧ w'.cell? ⟨w.heap.size, 3, none⟩ = some (.int .u8 f) ∧ w'.cell? ⟨w.heap.size, 4, none⟩ = some (.int .u32 kn) ∧ w'.cell? ⟨m, 0, none⟩ = some ((.slice (some ⟨db, doff, none⟩) d.size dc))) u) := fun u hw => by
    have hc : ∀ c, u.cell? ⟨w.heap.size, c, none⟩ = (w.alloc (.cells #[.int .u8 3, .int .u8 r, .int .u8 t, .int .u8 f, .int .u32 kn] 203)).cell? ⟨w.heap.size, c, none⟩ := fun c => hw.cell (p := ⟨w.heap.size, c, none⟩) (by simp)
    have hd : ∀ c, u.cell? ⟨m, c, none⟩ = w.cell? ⟨m, c, none⟩ := fun c => (hw.cell (p := ⟨m, c, none⟩) (by show m < _; omega)).trans (World.cell?_alloc_lt _ _ _ ml)
    refine ⟨?_, ?_, ?_, ?_, ?_, (hd _).trans cdat⟩ <;> (rw [hc, World.cell?_alloc_at _ _ _ _ rfl]; rfl)
  have HKP2 : Hid (∀ v v' u, Below (w.heap.size + 1) (((w.setCell ⟨m, 3 + r.toNat, none⟩ v).setCell ⟨m, 7 + r.toNat, none⟩ v').alloc (.cells #[.int .u8 3, .int .u8 r, .int .u8 t, .int .u8 f, .int .u32 kn] 203)) u → (fun w' => w'.cell? ⟨w.heap.size, 0, none⟩ = some (.int .u8 3) ∧ w'.cell? ⟨w.heap.size, 1, none⟩ = some (.int .u8 r) ∧ w'.cell? ⟨w.heap.size, 2, none⟩ = some (.int .u8 t) ∧ w'.cell? ⟨w.heap.size, 3, none⟩ = some (.int .u8 f) ∧ w'.cell? ⟨w.heap.size, 4, none⟩ = some (.int .u32 kn) ∧ w'.cell? ⟨m, 0, none⟩ = some ((.slice (some ⟨db, doff, none⟩) d.size dc))) u) := fun v v' u hw => by
    have hz : ((w.setCell ⟨m, 3 + r.toNat, none⟩ v).setCell ⟨m, 7 + r.toNat, none⟩ v').heap.size = w.heap.size := by simp [World.setCell]
    have hc : ∀ c, u.cell? ⟨w.heap.size, c, none⟩ = (((w.setCell ⟨m, 3 + r.toNat, none⟩ v).setCell ⟨m, 7 + r.toNat, none⟩ v').alloc (.cells #[.int .u8 3, .int .u8 r, .int .u8 t, .int .u8 f, .int .u32 kn] 203)).cell? ⟨w.heap.size, c, none⟩ := fun c => hw.cell (p := ⟨w.heap.size, c, none⟩) (by simp)
    have hd : ∀ c, c < 3 → u.cell? ⟨m, c, none⟩ = w.cell? ⟨m, c, none⟩ := fun c hc => by
      rw [hw.cell (p := ⟨m, c, none⟩) (by show m < _; omega), World.cell?_alloc_lt _ _ _ (by rw [hz]; exact ml), cell_set_off _ _ _ _ _ (by omega), cell_set_off _ _ _ _ _ (by omega)]
    refine ⟨?_, ?_, ?_, ?_, ?_, (hd _ (by omega)).trans cdat⟩ <;> (rw [hc, World.cell?_alloc_at _ _ _ _ hz.symm]; rfl)
  have HMC : Hid (∀ u, Below (w.heap.size + 1) (w.alloc (.cells #[.int .u8 3, .int .u8 r, .int .u8 t, .int .u8 f, .int .u32 kn] 203)) u → Mc u m (.slice (some ⟨db, doff, none⟩) d.size dc) q a ∧ Tch m w u) := fun u hw => by
    have hb : Below w.heap.size w u := ((Below.refl _ _).alloc (Nat.le_refl _) _).trans (hw.mono (by omega))
    exact ⟨HM.out.below hb, Tch.of hb⟩
  have HMP : Hid (∀ v u, Below (w.heap.size + 1) (((w.setCell ⟨m, 3 + r.toNat, none⟩ (.int .u32 v)).setCell ⟨m, 7 + r.toNat, none⟩ (.bool true)).alloc (.cells #[.int .u8 3, .int .u8 r, .int .u8 t, .int .u8 f, .int .u32 kn] 203)) u → Mc u m (.slice (some ⟨db, doff, none⟩) d.size dc) q (a.put ⟨3, r, t, f, kn⟩ v) ∧ Tch m w u) := fun v u hw => by
    have g := HM.out.put ha ⟨3, r, t, f, kn⟩ ⟨br.1, br.2⟩ v
    have g2 : Tch m w ((w.setCell ⟨m, 3 + r.toNat, none⟩ (.int .u32 v)).setCell ⟨m, 7 + r.toNat, none⟩ (.bool true)) := ((Tch.refl _ _).set _ _).set _ _
    have hz : ((w.setCell ⟨m, 3 + r.toNat, none⟩ (.int .u32 v)).setCell ⟨m, 7 + r.toNat, none⟩ (.bool true)).heap.size = w.heap.size := by simp [World.setCell]
    dsimp only at g
    generalize ((w.setCell ⟨m, 3 + r.toNat, none⟩ (.int .u32 v)).setCell ⟨m, 7 + r.toNat, none⟩ (.bool true)) = w9 at *
    have hb : Below w9.heap.size w9 u := ((Below.refl _ _).alloc (Nat.le_refl _) _).trans (hw.mono (by omega))
    exact ⟨g.below hb, g2.trans (Tch.of hb)⟩
  unfold maxLen at hmx
  have HR : Hid (Row w db doff d) := hr
  have hE := fun w => loadEnd_any ⟨3, r, t, f, kn⟩ ⟨by simp, by dsimp only; omega, by dsimp only; exact bt, by dsimp only; exact bf, bk⟩ w (by rfl)
  unfold insV insO Ins.wide at hE
  simp only [show ¬ (3 : Int) = 1 by decide, show ¬ (3 : Int) = 2 by decide, if_true, if_false] at hE
  have s0 : (kn : Int) ≤ (kn : Int) + 4 := by omega
  have s1 : (kn : Int) + 4 ≤ (dc : Int) := by omega
  have s2 : dc ≠ kn := by omega
  have HNA : Hid (∀ u, Below (w.heap.size + 1) (w.alloc (.cells #[.int .u8 3, .int .u8 r, .int .u8 t, .int .u8 f, .int .u32 kn] 203)) u → ∀ i, i < 4 → u.cell? ⟨db, doff + kn + i, none⟩ = some (.int .u8 (nth d (kn + i)))) := fun u hw i hi => by
    rw [hw.cell (p := ⟨db, doff + kn + i, none⟩) (by show db < _; omega), World.cell?_alloc_lt _ _ _ (by exact hdb), Nat.add_assoc]
    exact HR.out (kn + i) (by omega)
  clear hM cdat hr ha
  go_enter Tryz.func97, Tryz.ntmps97
  go_upto_region 5 with fail
  go_region_held3 (fun w' => w'.cell? ⟨w.heap.size, 0, none⟩ = some (.int .u8 3) ∧ w'.cell? ⟨w.heap.size, 1, none⟩ = some (.int .u8 r) ∧ w'.cell? ⟨w.heap.size, 2, none⟩ = some (.int .u8 t) ∧ w'.cell? ⟨w.heap.size, 3, none⟩ = some (.int .u8 f) ∧ w'.cell? ⟨w.heap.size, 4, none⟩ = some (.int .u32 kn) ∧ w'.cell? ⟨m, 0, none⟩ = some ((.slice (some ⟨db, doff, none⟩) d.size dc))) (first | (refine HKP.out _ ?_; (repeat (first | with_reducible exact Below.refl _ _ | with_reducible refine Below.drew ?_ | with_reducible refine below_drewN ?_ _ | with_reducible refine Below.alloc ?_ (by first | omega | (simp; done) | (simp; omega) | (simp [World.setCell]; done) | (simp [World.setCell]; omega)) _)); done) | (refine HKP2.out (.int .u32 (numv d kn 4)) (.bool true) _ ?_; (repeat (first | with_reducible exact Below.refl _ _ | with_reducible refine Below.drew ?_ | with_reducible refine below_drewN ?_ _ | with_reducible refine Below.alloc ?_ (by first | omega | (simp; done) | (simp; omega) | (simp [World.setCell]; done) | (simp [World.setCell]; omega)) _)); done)) (first | (go_at_call 121; refine (hE _).mono ?_; rintro e w2 ⟨rfl, rfl⟩) | (go_at_call 123; (first | rw [show ((kn : Int) + 4).toNat - kn = 4 by omega] | skip); refine (number_any d db (doff + kn) kn 4 _ _ (by omega) (HNA.out _ (by repeat (first | with_reducible exact Below.refl _ _ | with_reducible refine Below.drew ?_ | with_reducible refine below_drewN ?_ _ | with_reducible refine Below.alloc ?_ (by first | omega | (simp; done) | (simp; omega) | (simp [World.setCell]; done) | (simp [World.setCell]; omega)) _)))).mono ?_; rintro e w2 ⟨rfl, rfl⟩) | (go_at_call 122; refine (put_any r _ (a.reg.getD r.toNat 0) (a.set.getD r.toNat false) m _ (by omega) (by omega) ?hc ?hd ?f0 ?f1).mono ?_; (case hc => exact (HMC.out _ (by repeat (first | with_reducible exact Below.refl _ _ | with_reducible refine Below.drew ?_ | with_reducible refine below_drewN ?_ _ | with_reducible refine Below.alloc ?_ (by first | omega | (simp; done) | (simp; omega) | (simp [World.setCell]; done) | (simp [World.setCell]; omega)) _))).1.reg _ (by omega)); (case hd => exact (HMC.out _ (by repeat (first | with_reducible exact Below.refl _ _ | with_reducible refine Below.drew ?_ | with_reducible refine below_drewN ?_ _ | with_reducible refine Below.alloc ?_ (by first | omega | (simp; done) | (simp; omega) | (simp [World.setCell]; done) | (simp [World.setCell]; omega)) _))).1.set _ (by omega)); (case f0 => exact (HMC.out _ (by repeat (first | with_reducible exact Below.refl _ _ | with_reducible refine Below.drew ?_ | with_reducible refine below_drewN ?_ _ | with_reducible refine Below.alloc ?_ (by first | omega | (simp; done) | (simp; omega) | (simp [World.setCell]; done) | (simp [World.setCell]; omega)) _))).1.froz _); (case f1 => exact (HMC.out _ (by repeat (first | with_reducible exact Below.refl _ _ | with_reducible refine Below.drew ?_ | with_reducible refine below_drewN ?_ _ | with_reducible refine Below.alloc ?_ (by first | omega | (simp; done) | (simp; omega) | (simp [World.setCell]; done) | (simp [World.setCell]; omega)) _))).1.froz _); rintro e w' ⟨rfl, rfl⟩))
  all_goals
    go_wp2_with fail
    go_ret
    refine ⟨rfl, ?_, ?_⟩
    · exact (HMP.out _ _ (by repeat (first | with_reducible exact Below.refl _ _ | with_reducible refine Below.drew ?_ | with_reducible refine below_drewN ?_ _ | with_reducible refine Below.alloc ?_ (by first | omega | (simp; done) | (simp; omega) | (simp [World.setCell]; done) | (simp [World.setCell]; omega)) _))).1
    · exact (HMP.out _ _ (by repeat (first | with_reducible exact Below.refl _ _ | with_reducible refine Below.drew ?_ | with_reducible refine below_drewN ?_ _ | with_reducible refine Below.alloc ?_ (by first | omega | (simp; done) | (simp; omega) | (simp [World.setCell]; done) | (simp [World.setCell]; omega)) _))).2

set_option maxHeartbeats 1600000 in
theorem do_4_0 (r t f : Int) (m : Nat) (sp : Option Addr) (sn dc : Nat) (q : Int × Int) (a : St) (w : World) (br : 0 ≤ r ∧ r < 4) (ha : a.Ok) (hM : Mc w m (.slice sp sn dc) q a) :
    Calls Tryz.prog 97 #[.pointer (some ⟨m, 0, none⟩), .agg #[.int .u8 4, .int .u8 r, .int .u8 t, .int .u8 f, .int .u32 0]] w fun e w' => e = .returned (.int .u32 0) ∧ Mc w' m (.slice sp sn dc) q (a.put ⟨4, r, t, f, 0⟩ q.1) ∧ Tch m w w' := by
  have cm := hM.m0
  have ml := hM.lt
  have cdat := hM.data
  have HM : Hid (Mc w m (.slice sp sn dc) q a) := hM
  have HAO : Hid a.Ok := ha
  have HKP : Hid (∀ u, Below (w.heap.size + 1) (w.alloc (.cells #[.int .u8 4, .int .u8 r, .int .u8 t, .int .u8 f, .int .u32 0] 203)) u → (fun w' => w'.cell? ⟨w.heap.size, 0, none⟩ = some (.int .u8 4) ∧ w'.cell? ⟨w.heap.size, 1, none⟩ = some (.int .u8 r) ∧ w'.cell? ⟨w.heap.size, 2, none⟩ = some (.int .u8 t) ∧ w'.cell? ⟨w.heap.size, 3, none⟩ = some (.int .u8 f) ∧ w'.cell? ⟨w.heap.size, 4, none⟩ = some (.int .u32 0) ∧ w'.cell? ⟨m, 0, none⟩ = some ((.slice sp sn dc)) ∧ w'.cell? ⟨m, 1, none⟩ = some (.int .u32 q.1)) u) := fun u hw => by
    have hc : ∀ c, u.cell? ⟨w.heap.size, c, none⟩ = (w.alloc (.cells #[.int .u8 4, .int .u8 r, .int .u8 t, .int .u8 f, .int .u32 0] 203)).cell? ⟨w.heap.size, c, none⟩ := fun c => hw.cell (p := ⟨w.heap.size, c, none⟩) (by simp)
    have hd : ∀ c, u.cell? ⟨m, c, none⟩ = w.cell? ⟨m, c, none⟩ := fun c => (hw.cell (p := ⟨m, c, none⟩) (by show m < _; omega)).trans (World.cell?_alloc_lt _ _ _ ml)
    refine ⟨?_, ?_, ?_, ?_, ?_, (hd _).trans cdat, (hd _).trans cm⟩ <;> (rw [hc, World.cell?_alloc_at _ _ _ _ rfl]; rfl)
  have HKP2 : Hid (∀ v v' u, Below (w.heap.size + 1) (((w.setCell ⟨m, 3 + r.toNat, none⟩ v).setCell ⟨m, 7 + r.toNat, none⟩ v').alloc (.cells #[.int .u8 4, .int .u8 r, .int .u8 t, .int .u8 f, .int .u32 0] 203)) u → (fun w' => w'.cell? ⟨w.heap.size, 0, none⟩ = some (.int .u8 4) ∧ w'.cell? ⟨w.heap.size, 1, none⟩ = some (.int .u8 r) ∧ w'.cell? ⟨w.heap.size, 2, none⟩ = some (.int .u8 t) ∧ w'.cell? ⟨w.heap.size, 3, none⟩ = some (.int .u8 f) ∧ w'.cell? ⟨w.heap.size, 4, none⟩ = some (.int .u32 0) ∧ w'.cell? ⟨m, 0, none⟩ = some ((.slice sp sn dc)) ∧ w'.cell? ⟨m, 1, none⟩ = some (.int .u32 q.1)) u) := fun v v' u hw => by
    have hz : ((w.setCell ⟨m, 3 + r.toNat, none⟩ v).setCell ⟨m, 7 + r.toNat, none⟩ v').heap.size = w.heap.size := by simp [World.setCell]
    have hc : ∀ c, u.cell? ⟨w.heap.size, c, none⟩ = (((w.setCell ⟨m, 3 + r.toNat, none⟩ v).setCell ⟨m, 7 + r.toNat, none⟩ v').alloc (.cells #[.int .u8 4, .int .u8 r, .int .u8 t, .int .u8 f, .int .u32 0] 203)).cell? ⟨w.heap.size, c, none⟩ := fun c => hw.cell (p := ⟨w.heap.size, c, none⟩) (by simp)
    have hd : ∀ c, c < 3 → u.cell? ⟨m, c, none⟩ = w.cell? ⟨m, c, none⟩ := fun c hc => by
      rw [hw.cell (p := ⟨m, c, none⟩) (by show m < _; omega), World.cell?_alloc_lt _ _ _ (by rw [hz]; exact ml), cell_set_off _ _ _ _ _ (by omega), cell_set_off _ _ _ _ _ (by omega)]
    refine ⟨?_, ?_, ?_, ?_, ?_, (hd _ (by omega)).trans cdat, (hd _ (by omega)).trans cm⟩ <;> (rw [hc, World.cell?_alloc_at _ _ _ _ hz.symm]; rfl)
  have HMC : Hid (∀ u, Below (w.heap.size + 1) (w.alloc (.cells #[.int .u8 4, .int .u8 r, .int .u8 t, .int .u8 f, .int .u32 0] 203)) u → Mc u m (.slice sp sn dc) q a ∧ Tch m w u) := fun u hw => by
    have hb : Below w.heap.size w u := ((Below.refl _ _).alloc (Nat.le_refl _) _).trans (hw.mono (by omega))
    exact ⟨HM.out.below hb, Tch.of hb⟩
  have HMP : Hid (∀ v u, Below (w.heap.size + 1) (((w.setCell ⟨m, 3 + r.toNat, none⟩ (.int .u32 v)).setCell ⟨m, 7 + r.toNat, none⟩ (.bool true)).alloc (.cells #[.int .u8 4, .int .u8 r, .int .u8 t, .int .u8 f, .int .u32 0] 203)) u → Mc u m (.slice sp sn dc) q (a.put ⟨4, r, t, f, 0⟩ v) ∧ Tch m w u) := fun v u hw => by
    have g := HM.out.put ha ⟨4, r, t, f, 0⟩ ⟨br.1, br.2⟩ v
    have g2 : Tch m w ((w.setCell ⟨m, 3 + r.toNat, none⟩ (.int .u32 v)).setCell ⟨m, 7 + r.toNat, none⟩ (.bool true)) := ((Tch.refl _ _).set _ _).set _ _
    have hz : ((w.setCell ⟨m, 3 + r.toNat, none⟩ (.int .u32 v)).setCell ⟨m, 7 + r.toNat, none⟩ (.bool true)).heap.size = w.heap.size := by simp [World.setCell]
    dsimp only at g
    generalize ((w.setCell ⟨m, 3 + r.toNat, none⟩ (.int .u32 v)).setCell ⟨m, 7 + r.toNat, none⟩ (.bool true)) = w9 at *
    have hb : Below w9.heap.size w9 u := ((Below.refl _ _).alloc (Nat.le_refl _) _).trans (hw.mono (by omega))
    exact ⟨g.below hb, g2.trans (Tch.of hb)⟩
  clear hM cdat ha cm
  go_enter Tryz.func97, Tryz.ntmps97
  go_upto_region 7 with fail
  go_region_held3 (fun w' => w'.cell? ⟨w.heap.size, 0, none⟩ = some (.int .u8 4) ∧ w'.cell? ⟨w.heap.size, 1, none⟩ = some (.int .u8 r) ∧ w'.cell? ⟨w.heap.size, 2, none⟩ = some (.int .u8 t) ∧ w'.cell? ⟨w.heap.size, 3, none⟩ = some (.int .u8 f) ∧ w'.cell? ⟨w.heap.size, 4, none⟩ = some (.int .u32 0) ∧ w'.cell? ⟨m, 0, none⟩ = some ((.slice sp sn dc)) ∧ w'.cell? ⟨m, 1, none⟩ = some (.int .u32 q.1)) (first | (refine HKP.out _ ?_; (repeat (first | with_reducible exact Below.refl _ _ | with_reducible refine Below.drew ?_ | with_reducible refine below_drewN ?_ _ | with_reducible refine Below.alloc ?_ (by first | omega | (simp; done) | (simp; omega) | (simp [World.setCell]; done) | (simp [World.setCell]; omega)) _)); done) | (refine HKP2.out (.int .u32 q.1) (.bool true) _ ?_; (repeat (first | with_reducible exact Below.refl _ _ | with_reducible refine Below.drew ?_ | with_reducible refine below_drewN ?_ _ | with_reducible refine Below.alloc ?_ (by first | omega | (simp; done) | (simp; omega) | (simp [World.setCell]; done) | (simp [World.setCell]; omega)) _)); done)) (first | (go_at_call 122; refine (put_any r _ (a.reg.getD r.toNat 0) (a.set.getD r.toNat false) m _ (by omega) (by omega) ?hc ?hd ?f0 ?f1).mono ?_; (case hc => exact (HMC.out _ (by repeat (first | with_reducible exact Below.refl _ _ | with_reducible refine Below.drew ?_ | with_reducible refine below_drewN ?_ _ | with_reducible refine Below.alloc ?_ (by first | omega | (simp; done) | (simp; omega) | (simp [World.setCell]; done) | (simp [World.setCell]; omega)) _))).1.reg _ (by omega)); (case hd => exact (HMC.out _ (by repeat (first | with_reducible exact Below.refl _ _ | with_reducible refine Below.drew ?_ | with_reducible refine below_drewN ?_ _ | with_reducible refine Below.alloc ?_ (by first | omega | (simp; done) | (simp; omega) | (simp [World.setCell]; done) | (simp [World.setCell]; omega)) _))).1.set _ (by omega)); (case f0 => exact (HMC.out _ (by repeat (first | with_reducible exact Below.refl _ _ | with_reducible refine Below.drew ?_ | with_reducible refine below_drewN ?_ _ | with_reducible refine Below.alloc ?_ (by first | omega | (simp; done) | (simp; omega) | (simp [World.setCell]; done) | (simp [World.setCell]; omega)) _))).1.froz _); (case f1 => exact (HMC.out _ (by repeat (first | with_reducible exact Below.refl _ _ | with_reducible refine Below.drew ?_ | with_reducible refine below_drewN ?_ _ | with_reducible refine Below.alloc ?_ (by first | omega | (simp; done) | (simp; omega) | (simp [World.setCell]; done) | (simp [World.setCell]; omega)) _))).1.froz _); rintro e w' ⟨rfl, rfl⟩))
  all_goals
    go_wp2_with fail
    go_ret
    refine ⟨rfl, ?_, ?_⟩
    · exact (HMP.out _ _ (by repeat (first | with_reducible exact Below.refl _ _ | with_reducible refine Below.drew ?_ | with_reducible refine below_drewN ?_ _ | with_reducible refine Below.alloc ?_ (by first | omega | (simp; done) | (simp; omega) | (simp [World.setCell]; done) | (simp [World.setCell]; omega)) _))).1
    · exact (HMP.out _ _ (by repeat (first | with_reducible exact Below.refl _ _ | with_reducible refine Below.drew ?_ | with_reducible refine below_drewN ?_ _ | with_reducible refine Below.alloc ?_ (by first | omega | (simp; done) | (simp; omega) | (simp [World.setCell]; done) | (simp [World.setCell]; omega)) _))).2

set_option maxHeartbeats 1600000 in
theorem do_4_1 (r t f : Int) (m : Nat) (sp : Option Addr) (sn dc : Nat) (q : Int × Int) (a : St) (w : World) (br : 0 ≤ r ∧ r < 4) (ha : a.Ok) (hM : Mc w m (.slice sp sn dc) q a) :
    Calls Tryz.prog 97 #[.pointer (some ⟨m, 0, none⟩), .agg #[.int .u8 4, .int .u8 r, .int .u8 t, .int .u8 f, .int .u32 1]] w fun e w' => e = .returned (.int .u32 0) ∧ Mc w' m (.slice sp sn dc) q (a.put ⟨4, r, t, f, 1⟩ q.2) ∧ Tch m w w' := by
  have cm := hM.m1
  have ml := hM.lt
  have cdat := hM.data
  have HM : Hid (Mc w m (.slice sp sn dc) q a) := hM
  have HAO : Hid a.Ok := ha
  have HKP : Hid (∀ u, Below (w.heap.size + 1) (w.alloc (.cells #[.int .u8 4, .int .u8 r, .int .u8 t, .int .u8 f, .int .u32 1] 203)) u → (fun w' => w'.cell? ⟨w.heap.size, 0, none⟩ = some (.int .u8 4) ∧ w'.cell? ⟨w.heap.size, 1, none⟩ = some (.int .u8 r) ∧ w'.cell? ⟨w.heap.size, 2, none⟩ = some (.int .u8 t) ∧ w'.cell? ⟨w.heap.size, 3, none⟩ = some (.int .u8 f) ∧ w'.cell? ⟨w.heap.size, 4, none⟩ = some (.int .u32 1) ∧ w'.cell? ⟨m, 0, none⟩ = some ((.slice sp sn dc)) ∧ w'.cell? ⟨m, 2, none⟩ = some (.int .u32 q.2)) u) := fun u hw => by
    have hc : ∀ c, u.cell? ⟨w.heap.size, c, none⟩ = (w.alloc (.cells #[.int .u8 4, .int .u8 r, .int .u8 t, .int .u8 f, .int .u32 1] 203)).cell? ⟨w.heap.size, c, none⟩ := fun c => hw.cell (p := ⟨w.heap.size, c, none⟩) (by simp)
    have hd : ∀ c, u.cell? ⟨m, c, none⟩ = w.cell? ⟨m, c, none⟩ := fun c => (hw.cell (p := ⟨m, c, none⟩) (by show m < _; omega)).trans (World.cell?_alloc_lt _ _ _ ml)
    refine ⟨?_, ?_, ?_, ?_, ?_, (hd _).trans cdat, (hd _).trans cm⟩ <;> (rw [hc, World.cell?_alloc_at _ _ _ _ rfl]; rfl)
  have HKP2 : Hid (∀ v v' u, Below (w.heap.size + 1) (((w.setCell ⟨m, 3 + r.toNat, none⟩ v).setCell ⟨m, 7 + r.toNat, none⟩ v').alloc (.cells #[.int .u8 4, .int .u8 r, .int .u8 t, .int .u8 f, .int .u32 1] 203)) u → (fun w' => w'.cell? ⟨w.heap.size, 0, none⟩ = some (.int .u8 4) ∧ w'.cell? ⟨w.heap.size, 1, none⟩ = some (.int .u8 r) ∧ w'.cell? ⟨w.heap.size, 2, none⟩ = some (.int .u8 t) ∧ w'.cell? ⟨w.heap.size, 3, none⟩ = some (.int .u8 f) ∧ w'.cell? ⟨w.heap.size, 4, none⟩ = some (.int .u32 1) ∧ w'.cell? ⟨m, 0, none⟩ = some ((.slice sp sn dc)) ∧ w'.cell? ⟨m, 2, none⟩ = some (.int .u32 q.2)) u) := fun v v' u hw => by
    have hz : ((w.setCell ⟨m, 3 + r.toNat, none⟩ v).setCell ⟨m, 7 + r.toNat, none⟩ v').heap.size = w.heap.size := by simp [World.setCell]
    have hc : ∀ c, u.cell? ⟨w.heap.size, c, none⟩ = (((w.setCell ⟨m, 3 + r.toNat, none⟩ v).setCell ⟨m, 7 + r.toNat, none⟩ v').alloc (.cells #[.int .u8 4, .int .u8 r, .int .u8 t, .int .u8 f, .int .u32 1] 203)).cell? ⟨w.heap.size, c, none⟩ := fun c => hw.cell (p := ⟨w.heap.size, c, none⟩) (by simp)
    have hd : ∀ c, c < 3 → u.cell? ⟨m, c, none⟩ = w.cell? ⟨m, c, none⟩ := fun c hc => by
      rw [hw.cell (p := ⟨m, c, none⟩) (by show m < _; omega), World.cell?_alloc_lt _ _ _ (by rw [hz]; exact ml), cell_set_off _ _ _ _ _ (by omega), cell_set_off _ _ _ _ _ (by omega)]
    refine ⟨?_, ?_, ?_, ?_, ?_, (hd _ (by omega)).trans cdat, (hd _ (by omega)).trans cm⟩ <;> (rw [hc, World.cell?_alloc_at _ _ _ _ hz.symm]; rfl)
  have HMC : Hid (∀ u, Below (w.heap.size + 1) (w.alloc (.cells #[.int .u8 4, .int .u8 r, .int .u8 t, .int .u8 f, .int .u32 1] 203)) u → Mc u m (.slice sp sn dc) q a ∧ Tch m w u) := fun u hw => by
    have hb : Below w.heap.size w u := ((Below.refl _ _).alloc (Nat.le_refl _) _).trans (hw.mono (by omega))
    exact ⟨HM.out.below hb, Tch.of hb⟩
  have HMP : Hid (∀ v u, Below (w.heap.size + 1) (((w.setCell ⟨m, 3 + r.toNat, none⟩ (.int .u32 v)).setCell ⟨m, 7 + r.toNat, none⟩ (.bool true)).alloc (.cells #[.int .u8 4, .int .u8 r, .int .u8 t, .int .u8 f, .int .u32 1] 203)) u → Mc u m (.slice sp sn dc) q (a.put ⟨4, r, t, f, 1⟩ v) ∧ Tch m w u) := fun v u hw => by
    have g := HM.out.put ha ⟨4, r, t, f, 1⟩ ⟨br.1, br.2⟩ v
    have g2 : Tch m w ((w.setCell ⟨m, 3 + r.toNat, none⟩ (.int .u32 v)).setCell ⟨m, 7 + r.toNat, none⟩ (.bool true)) := ((Tch.refl _ _).set _ _).set _ _
    have hz : ((w.setCell ⟨m, 3 + r.toNat, none⟩ (.int .u32 v)).setCell ⟨m, 7 + r.toNat, none⟩ (.bool true)).heap.size = w.heap.size := by simp [World.setCell]
    dsimp only at g
    generalize ((w.setCell ⟨m, 3 + r.toNat, none⟩ (.int .u32 v)).setCell ⟨m, 7 + r.toNat, none⟩ (.bool true)) = w9 at *
    have hb : Below w9.heap.size w9 u := ((Below.refl _ _).alloc (Nat.le_refl _) _).trans (hw.mono (by omega))
    exact ⟨g.below hb, g2.trans (Tch.of hb)⟩
  clear hM cdat ha cm
  go_enter Tryz.func97, Tryz.ntmps97
  go_upto_region 7 with fail
  go_region_held3 (fun w' => w'.cell? ⟨w.heap.size, 0, none⟩ = some (.int .u8 4) ∧ w'.cell? ⟨w.heap.size, 1, none⟩ = some (.int .u8 r) ∧ w'.cell? ⟨w.heap.size, 2, none⟩ = some (.int .u8 t) ∧ w'.cell? ⟨w.heap.size, 3, none⟩ = some (.int .u8 f) ∧ w'.cell? ⟨w.heap.size, 4, none⟩ = some (.int .u32 1) ∧ w'.cell? ⟨m, 0, none⟩ = some ((.slice sp sn dc)) ∧ w'.cell? ⟨m, 2, none⟩ = some (.int .u32 q.2)) (first | (refine HKP.out _ ?_; (repeat (first | with_reducible exact Below.refl _ _ | with_reducible refine Below.drew ?_ | with_reducible refine below_drewN ?_ _ | with_reducible refine Below.alloc ?_ (by first | omega | (simp; done) | (simp; omega) | (simp [World.setCell]; done) | (simp [World.setCell]; omega)) _)); done) | (refine HKP2.out (.int .u32 q.2) (.bool true) _ ?_; (repeat (first | with_reducible exact Below.refl _ _ | with_reducible refine Below.drew ?_ | with_reducible refine below_drewN ?_ _ | with_reducible refine Below.alloc ?_ (by first | omega | (simp; done) | (simp; omega) | (simp [World.setCell]; done) | (simp [World.setCell]; omega)) _)); done)) (first | (go_at_call 122; refine (put_any r _ (a.reg.getD r.toNat 0) (a.set.getD r.toNat false) m _ (by omega) (by omega) ?hc ?hd ?f0 ?f1).mono ?_; (case hc => exact (HMC.out _ (by repeat (first | with_reducible exact Below.refl _ _ | with_reducible refine Below.drew ?_ | with_reducible refine below_drewN ?_ _ | with_reducible refine Below.alloc ?_ (by first | omega | (simp; done) | (simp; omega) | (simp [World.setCell]; done) | (simp [World.setCell]; omega)) _))).1.reg _ (by omega)); (case hd => exact (HMC.out _ (by repeat (first | with_reducible exact Below.refl _ _ | with_reducible refine Below.drew ?_ | with_reducible refine below_drewN ?_ _ | with_reducible refine Below.alloc ?_ (by first | omega | (simp; done) | (simp; omega) | (simp [World.setCell]; done) | (simp [World.setCell]; omega)) _))).1.set _ (by omega)); (case f0 => exact (HMC.out _ (by repeat (first | with_reducible exact Below.refl _ _ | with_reducible refine Below.drew ?_ | with_reducible refine below_drewN ?_ _ | with_reducible refine Below.alloc ?_ (by first | omega | (simp; done) | (simp; omega) | (simp [World.setCell]; done) | (simp [World.setCell]; omega)) _))).1.froz _); (case f1 => exact (HMC.out _ (by repeat (first | with_reducible exact Below.refl _ _ | with_reducible refine Below.drew ?_ | with_reducible refine below_drewN ?_ _ | with_reducible refine Below.alloc ?_ (by first | omega | (simp; done) | (simp; omega) | (simp [World.setCell]; done) | (simp [World.setCell]; omega)) _))).1.froz _); rintro e w' ⟨rfl, rfl⟩))
  all_goals
    go_wp2_with fail
    go_ret
    refine ⟨rfl, ?_, ?_⟩
    · exact (HMP.out _ _ (by repeat (first | with_reducible exact Below.refl _ _ | with_reducible refine Below.drew ?_ | with_reducible refine below_drewN ?_ _ | with_reducible refine Below.alloc ?_ (by first | omega | (simp; done) | (simp; omega) | (simp [World.setCell]; done) | (simp [World.setCell]; omega)) _))).1
    · exact (HMP.out _ _ (by repeat (first | with_reducible exact Below.refl _ _ | with_reducible refine Below.drew ?_ | with_reducible refine below_drewN ?_ _ | with_reducible refine Below.alloc ?_ (by first | omega | (simp; done) | (simp; omega) | (simp [World.setCell]; done) | (simp [World.setCell]; omega)) _))).2

set_option maxHeartbeats 1600000 in
theorem do_5 (r t f k : Int) (m : Nat) (sp : Option Addr) (sn dc : Nat) (q : Int × Int) (a : St) (w : World) (br : 0 ≤ r ∧ r < 4) (bk : 0 ≤ k ∧ k ≤ 4294967295) (ha : a.Ok) (hM : Mc w m (.slice sp sn dc) q a) (hn : sn ≤ 4294967295) :
    Calls Tryz.prog 97 #[.pointer (some ⟨m, 0, none⟩), .agg #[.int .u8 5, .int .u8 r, .int .u8 t, .int .u8 f, .int .u32 k]] w fun e w' => e = .returned (.int .u32 0) ∧ Mc w' m (.slice sp sn dc) q (a.put ⟨5, r, t, f, k⟩ sn) ∧ Tch m w w' := by
  have ml := hM.lt
  have cdat := hM.data
  have HM : Hid (Mc w m (.slice sp sn dc) q a) := hM
  have HAO : Hid a.Ok := ha
  have HKP : Hid (∀ u, Below (w.heap.size + 1) (w.alloc (.cells #[.int .u8 5, .int .u8 r, .int .u8 t, .int .u8 f, .int .u32 k] 203)) u → (fun w' => w'.cell? ⟨w.heap.size, 0, none⟩ = some (.int .u8 5) ∧ w'.cell? ⟨w.heap.size, 1, none⟩ = some (.int .u8 r) ∧ w'.cell? ⟨w.heap.size, 2, none⟩ = some (.int .u8 t) ∧ w'.cell? ⟨w.heap.size, 3, none⟩ = some (.int .u8 f) ∧ w'.cell? ⟨w.heap.size, 4, none⟩ = some (.int .u32 k) ∧ w'.cell? ⟨m, 0, none⟩ = some ((.slice sp sn dc))) u) := fun u hw => by
    have hc : ∀ c, u.cell? ⟨w.heap.size, c, none⟩ = (w.alloc (.cells #[.int .u8 5, .int .u8 r, .int .u8 t, .int .u8 f, .int .u32 k] 203)).cell? ⟨w.heap.size, c, none⟩ := fun c => hw.cell (p := ⟨w.heap.size, c, none⟩) (by simp)
    have hd : ∀ c, u.cell? ⟨m, c, none⟩ = w.cell? ⟨m, c, none⟩ := fun c => (hw.cell (p := ⟨m, c, none⟩) (by show m < _; omega)).trans (World.cell?_alloc_lt _ _ _ ml)
    refine ⟨?_, ?_, ?_, ?_, ?_, (hd _).trans cdat⟩ <;> (rw [hc, World.cell?_alloc_at _ _ _ _ rfl]; rfl)
  have HKP2 : Hid (∀ v v' u, Below (w.heap.size + 1) (((w.setCell ⟨m, 3 + r.toNat, none⟩ v).setCell ⟨m, 7 + r.toNat, none⟩ v').alloc (.cells #[.int .u8 5, .int .u8 r, .int .u8 t, .int .u8 f, .int .u32 k] 203)) u → (fun w' => w'.cell? ⟨w.heap.size, 0, none⟩ = some (.int .u8 5) ∧ w'.cell? ⟨w.heap.size, 1, none⟩ = some (.int .u8 r) ∧ w'.cell? ⟨w.heap.size, 2, none⟩ = some (.int .u8 t) ∧ w'.cell? ⟨w.heap.size, 3, none⟩ = some (.int .u8 f) ∧ w'.cell? ⟨w.heap.size, 4, none⟩ = some (.int .u32 k) ∧ w'.cell? ⟨m, 0, none⟩ = some ((.slice sp sn dc))) u) := fun v v' u hw => by
    have hz : ((w.setCell ⟨m, 3 + r.toNat, none⟩ v).setCell ⟨m, 7 + r.toNat, none⟩ v').heap.size = w.heap.size := by simp [World.setCell]
    have hc : ∀ c, u.cell? ⟨w.heap.size, c, none⟩ = (((w.setCell ⟨m, 3 + r.toNat, none⟩ v).setCell ⟨m, 7 + r.toNat, none⟩ v').alloc (.cells #[.int .u8 5, .int .u8 r, .int .u8 t, .int .u8 f, .int .u32 k] 203)).cell? ⟨w.heap.size, c, none⟩ := fun c => hw.cell (p := ⟨w.heap.size, c, none⟩) (by simp)
    have hd : ∀ c, c < 3 → u.cell? ⟨m, c, none⟩ = w.cell? ⟨m, c, none⟩ := fun c hc => by
      rw [hw.cell (p := ⟨m, c, none⟩) (by show m < _; omega), World.cell?_alloc_lt _ _ _ (by rw [hz]; exact ml), cell_set_off _ _ _ _ _ (by omega), cell_set_off _ _ _ _ _ (by omega)]
    refine ⟨?_, ?_, ?_, ?_, ?_, (hd _ (by omega)).trans cdat⟩ <;> (rw [hc, World.cell?_alloc_at _ _ _ _ hz.symm]; rfl)
  have HMC : Hid (∀ u, Below (w.heap.size + 1) (w.alloc (.cells #[.int .u8 5, .int .u8 r, .int .u8 t, .int .u8 f, .int .u32 k] 203)) u → Mc u m (.slice sp sn dc) q a ∧ Tch m w u) := fun u hw => by
    have hb : Below w.heap.size w u := ((Below.refl _ _).alloc (Nat.le_refl _) _).trans (hw.mono (by omega))
    exact ⟨HM.out.below hb, Tch.of hb⟩
  have HMP : Hid (∀ v u, Below (w.heap.size + 1) (((w.setCell ⟨m, 3 + r.toNat, none⟩ (.int .u32 v)).setCell ⟨m, 7 + r.toNat, none⟩ (.bool true)).alloc (.cells #[.int .u8 5, .int .u8 r, .int .u8 t, .int .u8 f, .int .u32 k] 203)) u → Mc u m (.slice sp sn dc) q (a.put ⟨5, r, t, f, k⟩ v) ∧ Tch m w u) := fun v u hw => by
    have g := HM.out.put ha ⟨5, r, t, f, k⟩ ⟨br.1, br.2⟩ v
    have g2 : Tch m w ((w.setCell ⟨m, 3 + r.toNat, none⟩ (.int .u32 v)).setCell ⟨m, 7 + r.toNat, none⟩ (.bool true)) := ((Tch.refl _ _).set _ _).set _ _
    have hz : ((w.setCell ⟨m, 3 + r.toNat, none⟩ (.int .u32 v)).setCell ⟨m, 7 + r.toNat, none⟩ (.bool true)).heap.size = w.heap.size := by simp [World.setCell]
    dsimp only at g
    generalize ((w.setCell ⟨m, 3 + r.toNat, none⟩ (.int .u32 v)).setCell ⟨m, 7 + r.toNat, none⟩ (.bool true)) = w9 at *
    have hb : Below w9.heap.size w9 u := ((Below.refl _ _).alloc (Nat.le_refl _) _).trans (hw.mono (by omega))
    exact ⟨g.below hb, g2.trans (Tch.of hb)⟩
  have hwr : IntKind.u32.wrap (sn : Int) = sn := by rw [IntKind.wrap_u32]; omega
  have hmo : (sn : Int) % 4294967296 = sn := by omega
  clear hM cdat ha
  go_enter Tryz.func97, Tryz.ntmps97
  go_upto_region 9 with fail
  go_region_held3 (fun w' => w'.cell? ⟨w.heap.size, 0, none⟩ = some (.int .u8 5) ∧ w'.cell? ⟨w.heap.size, 1, none⟩ = some (.int .u8 r) ∧ w'.cell? ⟨w.heap.size, 2, none⟩ = some (.int .u8 t) ∧ w'.cell? ⟨w.heap.size, 3, none⟩ = some (.int .u8 f) ∧ w'.cell? ⟨w.heap.size, 4, none⟩ = some (.int .u32 k) ∧ w'.cell? ⟨m, 0, none⟩ = some ((.slice sp sn dc))) (first | (refine HKP.out _ ?_; (repeat (first | with_reducible exact Below.refl _ _ | with_reducible refine Below.drew ?_ | with_reducible refine below_drewN ?_ _ | with_reducible refine Below.alloc ?_ (by first | omega | (simp; done) | (simp; omega) | (simp [World.setCell]; done) | (simp [World.setCell]; omega)) _)); done) | (refine HKP2.out (.int .u32 (sn : Int)) (.bool true) _ ?_; (repeat (first | with_reducible exact Below.refl _ _ | with_reducible refine Below.drew ?_ | with_reducible refine below_drewN ?_ _ | with_reducible refine Below.alloc ?_ (by first | omega | (simp; done) | (simp; omega) | (simp [World.setCell]; done) | (simp [World.setCell]; omega)) _)); done)) (first | (go_at_call 122; refine (put_any r _ (a.reg.getD r.toNat 0) (a.set.getD r.toNat false) m _ (by omega) (by omega) ?hc ?hd ?f0 ?f1).mono ?_; (case hc => exact (HMC.out _ (by repeat (first | with_reducible exact Below.refl _ _ | with_reducible refine Below.drew ?_ | with_reducible refine below_drewN ?_ _ | with_reducible refine Below.alloc ?_ (by first | omega | (simp; done) | (simp; omega) | (simp [World.setCell]; done) | (simp [World.setCell]; omega)) _))).1.reg _ (by omega)); (case hd => exact (HMC.out _ (by repeat (first | with_reducible exact Below.refl _ _ | with_reducible refine Below.drew ?_ | with_reducible refine below_drewN ?_ _ | with_reducible refine Below.alloc ?_ (by first | omega | (simp; done) | (simp; omega) | (simp [World.setCell]; done) | (simp [World.setCell]; omega)) _))).1.set _ (by omega)); (case f0 => exact (HMC.out _ (by repeat (first | with_reducible exact Below.refl _ _ | with_reducible refine Below.drew ?_ | with_reducible refine below_drewN ?_ _ | with_reducible refine Below.alloc ?_ (by first | omega | (simp; done) | (simp; omega) | (simp [World.setCell]; done) | (simp [World.setCell]; omega)) _))).1.froz _); (case f1 => exact (HMC.out _ (by repeat (first | with_reducible exact Below.refl _ _ | with_reducible refine Below.drew ?_ | with_reducible refine below_drewN ?_ _ | with_reducible refine Below.alloc ?_ (by first | omega | (simp; done) | (simp; omega) | (simp [World.setCell]; done) | (simp [World.setCell]; omega)) _))).1.froz _); rintro e w' ⟨rfl, rfl⟩))
  all_goals
    go_wp2_with fail
    go_ret
    refine ⟨rfl, ?_, ?_⟩
    · exact (HMP.out _ _ (by repeat (first | with_reducible exact Below.refl _ _ | with_reducible refine Below.drew ?_ | with_reducible refine below_drewN ?_ _ | with_reducible refine Below.alloc ?_ (by first | omega | (simp; done) | (simp; omega) | (simp [World.setCell]; done) | (simp [World.setCell]; omega)) _))).1
    · exact (HMP.out _ _ (by repeat (first | with_reducible exact Below.refl _ _ | with_reducible refine Below.drew ?_ | with_reducible refine below_drewN ?_ _ | with_reducible refine Below.alloc ?_ (by first | omega | (simp; done) | (simp; omega) | (simp [World.setCell]; done) | (simp [World.setCell]; omega)) _))).2
end Go.Proofs.YtclpnafiiobfhabGreatDoor
namespace Go.Proofs.YtclpnafiiobfhabGreatDoor
open Go.RowKit
set_option linter.unusedVariables false
set_option linter.unusedSimpArgs false

set_option maxHeartbeats 1600000 in
theorem do_6 (r t f k : Int) (m : Nat) (sp : Option Addr) (sn dc : Nat) (q : Int × Int) (a : St) (w : World) (br : 0 ≤ r ∧ r < 4) (bk : 0 ≤ k ∧ k ≤ 4294967295) (ha : a.Ok) (hM : Mc w m (.slice sp sn dc) q a) :
    Calls Tryz.prog 97 #[.pointer (some ⟨m, 0, none⟩), .agg #[.int .u8 6, .int .u8 r, .int .u8 t, .int .u8 f, .int .u32 k]] w fun e w' => e = .returned (.int .u32 0) ∧ Mc w' m (.slice sp sn dc) q (a.turn ⟨6, r, t, f, k⟩ ((((a.at ⟨6, r, t, f, k⟩)).toNat &&& k.toNat : Nat) : Int)) ∧ Tch m w w' := by
  have ml := hM.lt
  have mn : m ≠ w.heap.size := by omega
  have HM : Hid (Mc w m (.slice sp sn dc) q a) := hM
  have HAO : Hid a.Ok := ha
  have cr := hM.reg r.toNat (by omega)
  have fr := hM.froz (3 + r.toNat)
  have bv : 0 ≤ a.reg.getD r.toNat 0 ∧ a.reg.getD r.toNat 0 ≤ 4294967295 := ha.at ⟨6, r, t, f, k⟩
  obtain ⟨v, hv⟩ : ∃ v, a.reg.getD r.toNat 0 = v := ⟨_, rfl⟩
  have HV : Hid (a.reg.getD r.toNat 0 = v) := hv
  rw [hv] at cr bv
  have br0 := br.1
  have br4 := br.2
  have HAT : Hid (a.at ⟨6, r, t, f, k⟩ = v) := hv
  have hand := u32_and v k (by omega) (by omega) (by omega) (by omega)
  clear hM ha hv
  go_enter Tryz.func97, Tryz.ntmps97
  go_upto_region 11 with fail
  go_region
  all_goals
    go_wp2_with fail
    go_ret
    refine ⟨rfl, ?_, ?_⟩
    · rw [HAT.out]
      refine Mc.below (w := w.setCell ⟨m, 3 + r.toNat, none⟩ (.int .u32 ((v.toNat &&& k.toNat : Nat) : Int))) ?_ (Below.drew ((Below.refl _ _).alloc (Nat.le_refl _) _))
      exact HM.out.turn HAO.out ⟨6, r, t, f, k⟩ ⟨br0, br4⟩ _
    · exact Tch.drew' (Tch.alloc ((Tch.refl _ _).set _ _) _)

set_option maxHeartbeats 1600000 in
theorem do_7 (r t f k : Int) (m : Nat) (sp : Option Addr) (sn dc : Nat) (q : Int × Int) (a : St) (w : World) (br : 0 ≤ r ∧ r < 4) (bk : 0 ≤ k ∧ k ≤ 4294967295) (ha : a.Ok) (hM : Mc w m (.slice sp sn dc) q a) (hk : k < 32) :
    Calls Tryz.prog 97 #[.pointer (some ⟨m, 0, none⟩), .agg #[.int .u8 7, .int .u8 r, .int .u8 t, .int .u8 f, .int .u32 k]] w fun e w' => e = .returned (.int .u32 0) ∧ Mc w' m (.slice sp sn dc) q (a.turn ⟨7, r, t, f, k⟩ ((a.at ⟨7, r, t, f, k⟩) / 2 ^ k.toNat)) ∧ Tch m w w' := by
  have ml := hM.lt
  have mn : m ≠ w.heap.size := by omega
  have HM : Hid (Mc w m (.slice sp sn dc) q a) := hM
  have HAO : Hid a.Ok := ha
  have cr := hM.reg r.toNat (by omega)
  have fr := hM.froz (3 + r.toNat)
  have bv : 0 ≤ a.reg.getD r.toNat 0 ∧ a.reg.getD r.toNat 0 ≤ 4294967295 := ha.at ⟨7, r, t, f, k⟩
  obtain ⟨v, hv⟩ : ∃ v, a.reg.getD r.toNat 0 = v := ⟨_, rfl⟩
  have HV : Hid (a.reg.getD r.toNat 0 = v) := hv
  rw [hv] at cr bv
  have br0 := br.1
  have br4 := br.2
  have HAT : Hid (a.at ⟨7, r, t, f, k⟩ = v) := hv
  clear hM ha hv
  go_enter Tryz.func97, Tryz.ntmps97
  go_upto_region 13 with fail
  go_region
  all_goals
    go_wp2_with fail
    go_ret
    refine ⟨rfl, ?_, ?_⟩
    · rw [HAT.out]
      refine Mc.below (w := w.setCell ⟨m, 3 + r.toNat, none⟩ (.int .u32 (v / 2 ^ k.toNat))) ?_ (Below.drew ((Below.refl _ _).alloc (Nat.le_refl _) _))
      exact HM.out.turn HAO.out ⟨7, r, t, f, k⟩ ⟨br0, br4⟩ _
    · exact Tch.drew' (Tch.alloc ((Tch.refl _ _).set _ _) _)

set_option maxHeartbeats 1600000 in
theorem do_8 (r t f k : Int) (m : Nat) (sp : Option Addr) (sn dc : Nat) (q : Int × Int) (a : St) (w : World) (br : 0 ≤ r ∧ r < 4) (bt : 0 ≤ t ∧ t ≤ 255) (bf : 0 ≤ f ∧ f ≤ 255) (bk : 0 ≤ k ∧ k ≤ 4294967295) (ha : a.Ok) (hM : Mc w m (.slice sp sn dc) q a) :
    Calls Tryz.prog 97 #[.pointer (some ⟨m, 0, none⟩), .agg #[.int .u8 8, .int .u8 r, .int .u8 t, .int .u8 f, .int .u32 k]] w fun e w' => e = .returned (.int .u32 (a.over ⟨8, r, t, f, k⟩)) ∧ Mc w' m (.slice sp sn dc) q a ∧ Tch m w w' := by
  have ml := hM.lt
  have mn : m ≠ w.heap.size := by omega
  have HM : Hid (Mc w m (.slice sp sn dc) q a) := hM
  have HAO : Hid a.Ok := ha
  have cr := hM.reg r.toNat (by omega)
  have fr := hM.froz (3 + r.toNat)
  have bv : 0 ≤ a.reg.getD r.toNat 0 ∧ a.reg.getD r.toNat 0 ≤ 4294967295 := ha.at ⟨8, r, t, f, k⟩
  obtain ⟨v, hv⟩ : ∃ v, a.reg.getD r.toNat 0 = v := ⟨_, rfl⟩
  have HV : Hid (a.reg.getD r.toNat 0 = v) := hv
  rw [hv] at cr bv
  have br0 := br.1
  have br4 := br.2
  obtain ⟨ov, hov⟩ : ∃ ov, a.over ⟨8, r, t, f, k⟩ = ov := ⟨_, rfl⟩
  rw [hov]
  have HOV : Hid ((if v == k then t else f) = ov) := by
    show (if v == k then t else f) = ov
    rw [← hov]
    have e : a.goes ⟨8, r, t, f, k⟩ = (v == k) := by
      unfold St.goes St.at
      dsimp only
      rw [hv]
      simp
    unfold St.over
    rw [e]
    simp [Ins.branch]
  have hBr := fun w => branch_any ⟨8, r, t, f, k⟩ (v == k) ⟨by simp, by dsimp only; omega, bt, bf, bk⟩ w
  unfold insV insO at hBr
  dsimp only at hBr
  rw [HOV.out] at hBr
  have HKP : Hid (∀ u, Below (w.heap.size + 1) (w.alloc (.cells #[.int .u8 8, .int .u8 r, .int .u8 t, .int .u8 f, .int .u32 k] 203)) u → (fun w' => w'.cell? ⟨w.heap.size, 0, none⟩ = some (.int .u8 8) ∧ w'.cell? ⟨w.heap.size, 1, none⟩ = some (.int .u8 r) ∧ w'.cell? ⟨w.heap.size, 2, none⟩ = some (.int .u8 t) ∧ w'.cell? ⟨w.heap.size, 3, none⟩ = some (.int .u8 f) ∧ w'.cell? ⟨w.heap.size, 4, none⟩ = some (.int .u32 k) ∧ w'.cell? ⟨m, 3 + r.toNat, none⟩ = some (.int .u32 v)) u) := fun u hw => by
    have hc : ∀ c, u.cell? ⟨w.heap.size, c, none⟩ = (w.alloc (.cells #[.int .u8 8, .int .u8 r, .int .u8 t, .int .u8 f, .int .u32 k] 203)).cell? ⟨w.heap.size, c, none⟩ := fun c => hw.cell (p := ⟨w.heap.size, c, none⟩) (by simp)
    have hd : ∀ c, u.cell? ⟨m, c, none⟩ = w.cell? ⟨m, c, none⟩ := fun c => (hw.cell (p := ⟨m, c, none⟩) (by show m < _; omega)).trans (World.cell?_alloc_lt _ _ _ ml)
    refine ⟨?_, ?_, ?_, ?_, ?_, (hd _).trans cr⟩ <;> (rw [hc, World.cell?_alloc_at _ _ _ _ rfl]; rfl)
  clear hM ha hv hov HOV
  go_enter Tryz.func97, Tryz.ntmps97
  go_upto_region 15 with fail
  go_region_held3 (fun w' => w'.cell? ⟨w.heap.size, 0, none⟩ = some (.int .u8 8) ∧ w'.cell? ⟨w.heap.size, 1, none⟩ = some (.int .u8 r) ∧ w'.cell? ⟨w.heap.size, 2, none⟩ = some (.int .u8 t) ∧ w'.cell? ⟨w.heap.size, 3, none⟩ = some (.int .u8 f) ∧ w'.cell? ⟨w.heap.size, 4, none⟩ = some (.int .u32 k) ∧ w'.cell? ⟨m, 3 + r.toNat, none⟩ = some (.int .u32 v)) (first | (refine HKP.out _ ?_; (repeat (first | with_reducible exact Below.refl _ _ | with_reducible refine Below.drew ?_ | with_reducible refine below_drewN ?_ _ | with_reducible refine Below.alloc ?_ (by first | omega | (simp; done) | (simp; omega) | (simp [World.setCell]; done) | (simp [World.setCell]; omega)) _)); done)) (first | (go_at_call 124; refine (hBr _).mono ?_; rintro e w' ⟨rfl, rfl⟩))
  all_goals
    go_wp2_with fail
    go_ret
    refine ⟨rfl, ?_, ?_⟩
    · exact HM.out.below (by repeat (first | with_reducible exact Below.refl _ _ | with_reducible refine Below.drew ?_ | with_reducible refine below_drewN ?_ _ | with_reducible refine Below.alloc ?_ (by first | omega | (simp; done) | (simp; omega) | (simp [World.setCell]; done) | (simp [World.setCell]; omega)) _))
    · exact Tch.of (by repeat (first | with_reducible exact Below.refl _ _ | with_reducible refine Below.drew ?_ | with_reducible refine below_drewN ?_ _ | with_reducible refine Below.alloc ?_ (by first | omega | (simp; done) | (simp; omega) | (simp [World.setCell]; done) | (simp [World.setCell]; omega)) _))

set_option maxHeartbeats 1600000 in
theorem do_9 (r t f k : Int) (m : Nat) (sp : Option Addr) (sn dc : Nat) (q : Int × Int) (a : St) (w : World) (br : 0 ≤ r ∧ r < 4) (bt : 0 ≤ t ∧ t ≤ 255) (bf : 0 ≤ f ∧ f ≤ 255) (bk : 0 ≤ k ∧ k ≤ 4294967295) (ha : a.Ok) (hM : Mc w m (.slice sp sn dc) q a) :
    Calls Tryz.prog 97 #[.pointer (some ⟨m, 0, none⟩), .agg #[.int .u8 9, .int .u8 r, .int .u8 t, .int .u8 f, .int .u32 k]] w fun e w' => e = .returned (.int .u32 (a.over ⟨9, r, t, f, k⟩)) ∧ Mc w' m (.slice sp sn dc) q a ∧ Tch m w w' := by
  have ml := hM.lt
  have mn : m ≠ w.heap.size := by omega
  have HM : Hid (Mc w m (.slice sp sn dc) q a) := hM
  have HAO : Hid a.Ok := ha
  have cr := hM.reg r.toNat (by omega)
  have fr := hM.froz (3 + r.toNat)
  have bv : 0 ≤ a.reg.getD r.toNat 0 ∧ a.reg.getD r.toNat 0 ≤ 4294967295 := ha.at ⟨9, r, t, f, k⟩
  obtain ⟨v, hv⟩ : ∃ v, a.reg.getD r.toNat 0 = v := ⟨_, rfl⟩
  have HV : Hid (a.reg.getD r.toNat 0 = v) := hv
  rw [hv] at cr bv
  have br0 := br.1
  have br4 := br.2
  obtain ⟨ov, hov⟩ : ∃ ov, a.over ⟨9, r, t, f, k⟩ = ov := ⟨_, rfl⟩
  rw [hov]
  have HOV : Hid ((if decide (k ≤ v) then t else f) = ov) := by
    show (if decide (k ≤ v) then t else f) = ov
    rw [← hov]
    have e : a.goes ⟨9, r, t, f, k⟩ = (decide (k ≤ v)) := by
      unfold St.goes St.at
      dsimp only
      rw [hv]
      simp
    unfold St.over
    rw [e]
    simp [Ins.branch]
  have hBr := fun w => branch_any ⟨9, r, t, f, k⟩ (decide (k ≤ v)) ⟨by simp, by dsimp only; omega, bt, bf, bk⟩ w
  unfold insV insO at hBr
  dsimp only at hBr
  rw [HOV.out] at hBr
  have HKP : Hid (∀ u, Below (w.heap.size + 1) (w.alloc (.cells #[.int .u8 9, .int .u8 r, .int .u8 t, .int .u8 f, .int .u32 k] 203)) u → (fun w' => w'.cell? ⟨w.heap.size, 0, none⟩ = some (.int .u8 9) ∧ w'.cell? ⟨w.heap.size, 1, none⟩ = some (.int .u8 r) ∧ w'.cell? ⟨w.heap.size, 2, none⟩ = some (.int .u8 t) ∧ w'.cell? ⟨w.heap.size, 3, none⟩ = some (.int .u8 f) ∧ w'.cell? ⟨w.heap.size, 4, none⟩ = some (.int .u32 k) ∧ w'.cell? ⟨m, 3 + r.toNat, none⟩ = some (.int .u32 v)) u) := fun u hw => by
    have hc : ∀ c, u.cell? ⟨w.heap.size, c, none⟩ = (w.alloc (.cells #[.int .u8 9, .int .u8 r, .int .u8 t, .int .u8 f, .int .u32 k] 203)).cell? ⟨w.heap.size, c, none⟩ := fun c => hw.cell (p := ⟨w.heap.size, c, none⟩) (by simp)
    have hd : ∀ c, u.cell? ⟨m, c, none⟩ = w.cell? ⟨m, c, none⟩ := fun c => (hw.cell (p := ⟨m, c, none⟩) (by show m < _; omega)).trans (World.cell?_alloc_lt _ _ _ ml)
    refine ⟨?_, ?_, ?_, ?_, ?_, (hd _).trans cr⟩ <;> (rw [hc, World.cell?_alloc_at _ _ _ _ rfl]; rfl)
  clear hM ha hv hov HOV
  go_enter Tryz.func97, Tryz.ntmps97
  go_upto_region 17 with fail
  go_region_held3 (fun w' => w'.cell? ⟨w.heap.size, 0, none⟩ = some (.int .u8 9) ∧ w'.cell? ⟨w.heap.size, 1, none⟩ = some (.int .u8 r) ∧ w'.cell? ⟨w.heap.size, 2, none⟩ = some (.int .u8 t) ∧ w'.cell? ⟨w.heap.size, 3, none⟩ = some (.int .u8 f) ∧ w'.cell? ⟨w.heap.size, 4, none⟩ = some (.int .u32 k) ∧ w'.cell? ⟨m, 3 + r.toNat, none⟩ = some (.int .u32 v)) (first | (refine HKP.out _ ?_; (repeat (first | with_reducible exact Below.refl _ _ | with_reducible refine Below.drew ?_ | with_reducible refine below_drewN ?_ _ | with_reducible refine Below.alloc ?_ (by first | omega | (simp; done) | (simp; omega) | (simp [World.setCell]; done) | (simp [World.setCell]; omega)) _)); done)) (first | (go_at_call 124; refine (hBr _).mono ?_; rintro e w' ⟨rfl, rfl⟩))
  all_goals
    go_wp2_with fail
    go_ret
    refine ⟨rfl, ?_, ?_⟩
    · exact HM.out.below (by repeat (first | with_reducible exact Below.refl _ _ | with_reducible refine Below.drew ?_ | with_reducible refine below_drewN ?_ _ | with_reducible refine Below.alloc ?_ (by first | omega | (simp; done) | (simp; omega) | (simp [World.setCell]; done) | (simp [World.setCell]; omega)) _))
    · exact Tch.of (by repeat (first | with_reducible exact Below.refl _ _ | with_reducible refine Below.drew ?_ | with_reducible refine below_drewN ?_ _ | with_reducible refine Below.alloc ?_ (by first | omega | (simp; done) | (simp; omega) | (simp [World.setCell]; done) | (simp [World.setCell]; omega)) _))

set_option maxHeartbeats 1600000 in
theorem do_10 (r t f k : Int) (m : Nat) (sp : Option Addr) (sn dc : Nat) (q : Int × Int) (a : St) (w : World) (br : 0 ≤ r ∧ r < 4) (bt : 0 ≤ t ∧ t ≤ 255) (bf : 0 ≤ f ∧ f ≤ 255) (bk : 0 ≤ k ∧ k ≤ 4294967295) (ha : a.Ok) (hM : Mc w m (.slice sp sn dc) q a) :
    Calls Tryz.prog 97 #[.pointer (some ⟨m, 0, none⟩), .agg #[.int .u8 10, .int .u8 r, .int .u8 t, .int .u8 f, .int .u32 k]] w fun e w' => e = .returned (.int .u32 (a.over ⟨10, r, t, f, k⟩)) ∧ Mc w' m (.slice sp sn dc) q a ∧ Tch m w w' := by
  have ml := hM.lt
  have mn : m ≠ w.heap.size := by omega
  have HM : Hid (Mc w m (.slice sp sn dc) q a) := hM
  have HAO : Hid a.Ok := ha
  have cr := hM.reg r.toNat (by omega)
  have fr := hM.froz (3 + r.toNat)
  have bv : 0 ≤ a.reg.getD r.toNat 0 ∧ a.reg.getD r.toNat 0 ≤ 4294967295 := ha.at ⟨10, r, t, f, k⟩
  obtain ⟨v, hv⟩ : ∃ v, a.reg.getD r.toNat 0 = v := ⟨_, rfl⟩
  have HV : Hid (a.reg.getD r.toNat 0 = v) := hv
  rw [hv] at cr bv
  have br0 := br.1
  have br4 := br.2
  obtain ⟨ov, hov⟩ : ∃ ov, a.over ⟨10, r, t, f, k⟩ = ov := ⟨_, rfl⟩
  rw [hov]
  have HOV : Hid ((if ((v.toNat &&& k.toNat : Nat) : Int) != 0 then t else f) = ov) := by
    show (if ((v.toNat &&& k.toNat : Nat) : Int) != 0 then t else f) = ov
    rw [← hov]
    have e : a.goes ⟨10, r, t, f, k⟩ = (((v.toNat &&& k.toNat : Nat) : Int) != 0) := by
      unfold St.goes St.at
      dsimp only
      rw [hv]
      simp
      generalize v.toNat &&& k.toNat = z
      by_cases hz : z = 0
      · subst hz; rfl
      · have h1 : (z == 0) = false := by simpa using hz
        have h2 : ((z : Int) != 0) = true := by simp; omega
        rw [h1, h2]; rfl
    unfold St.over
    rw [e]
    simp [Ins.branch]
  have hBr := fun w => branch_any ⟨10, r, t, f, k⟩ (((v.toNat &&& k.toNat : Nat) : Int) != 0) ⟨by simp, by dsimp only; omega, bt, bf, bk⟩ w
  unfold insV insO at hBr
  dsimp only at hBr
  rw [HOV.out] at hBr
  have HKP : Hid (∀ u, Below (w.heap.size + 1) (w.alloc (.cells #[.int .u8 10, .int .u8 r, .int .u8 t, .int .u8 f, .int .u32 k] 203)) u → (fun w' => w'.cell? ⟨w.heap.size, 0, none⟩ = some (.int .u8 10) ∧ w'.cell? ⟨w.heap.size, 1, none⟩ = some (.int .u8 r) ∧ w'.cell? ⟨w.heap.size, 2, none⟩ = some (.int .u8 t) ∧ w'.cell? ⟨w.heap.size, 3, none⟩ = some (.int .u8 f) ∧ w'.cell? ⟨w.heap.size, 4, none⟩ = some (.int .u32 k) ∧ w'.cell? ⟨m, 3 + r.toNat, none⟩ = some (.int .u32 v)) u) := fun u hw => by
    have hc : ∀ c, u.cell? ⟨w.heap.size, c, none⟩ = (w.alloc (.cells #[.int .u8 10, .int .u8 r, .int .u8 t, .int .u8 f, .int .u32 k] 203)).cell? ⟨w.heap.size, c, none⟩ := fun c => hw.cell (p := ⟨w.heap.size, c, none⟩) (by simp)
    have hd : ∀ c, u.cell? ⟨m, c, none⟩ = w.cell? ⟨m, c, none⟩ := fun c => (hw.cell (p := ⟨m, c, none⟩) (by show m < _; omega)).trans (World.cell?_alloc_lt _ _ _ ml)
    refine ⟨?_, ?_, ?_, ?_, ?_, (hd _).trans cr⟩ <;> (rw [hc, World.cell?_alloc_at _ _ _ _ rfl]; rfl)
  have hand := u32_and v k (by omega) (by omega) (by omega) (by omega)
  clear hM ha hv hov HOV
  go_enter Tryz.func97, Tryz.ntmps97
  go_upto_region 19 with fail
  go_region_held3 (fun w' => w'.cell? ⟨w.heap.size, 0, none⟩ = some (.int .u8 10) ∧ w'.cell? ⟨w.heap.size, 1, none⟩ = some (.int .u8 r) ∧ w'.cell? ⟨w.heap.size, 2, none⟩ = some (.int .u8 t) ∧ w'.cell? ⟨w.heap.size, 3, none⟩ = some (.int .u8 f) ∧ w'.cell? ⟨w.heap.size, 4, none⟩ = some (.int .u32 k) ∧ w'.cell? ⟨m, 3 + r.toNat, none⟩ = some (.int .u32 v)) (first | (refine HKP.out _ ?_; (repeat (first | with_reducible exact Below.refl _ _ | with_reducible refine Below.drew ?_ | with_reducible refine below_drewN ?_ _ | with_reducible refine Below.alloc ?_ (by first | omega | (simp; done) | (simp; omega) | (simp [World.setCell]; done) | (simp [World.setCell]; omega)) _)); done)) (first | (go_at_call 124; refine (hBr _).mono ?_; rintro e w' ⟨rfl, rfl⟩))
  all_goals
    go_wp2_with fail
    go_ret
    refine ⟨rfl, ?_, ?_⟩
    · exact HM.out.below (by repeat (first | with_reducible exact Below.refl _ _ | with_reducible refine Below.drew ?_ | with_reducible refine below_drewN ?_ _ | with_reducible refine Below.alloc ?_ (by first | omega | (simp; done) | (simp; omega) | (simp [World.setCell]; done) | (simp [World.setCell]; omega)) _))
    · exact Tch.of (by repeat (first | with_reducible exact Below.refl _ _ | with_reducible refine Below.drew ?_ | with_reducible refine below_drewN ?_ _ | with_reducible refine Below.alloc ?_ (by first | omega | (simp; done) | (simp; omega) | (simp [World.setCell]; done) | (simp [World.setCell]; omega)) _))

set_option maxHeartbeats 1600000 in
theorem do_11 (r t f k : Int) (m : Nat) (sp : Option Addr) (sn dc : Nat) (q : Int × Int) (a : St) (w : World) (br : 0 ≤ r ∧ r < 4) (bk : 0 ≤ k ∧ k ≤ 4294967295) (ha : a.Ok) (hM : Mc w m (.slice sp sn dc) q a) :
    Calls Tryz.prog 97 #[.pointer (some ⟨m, 0, none⟩), .agg #[.int .u8 11, .int .u8 r, .int .u8 t, .int .u8 f, .int .u32 k]] w fun e w' => e = .returned (.int .u32 k) ∧ Mc w' m (.slice sp sn dc) q a ∧ Tch m w w' := by
  have HM : Hid (Mc w m (.slice sp sn dc) q a) := hM
  clear hM
  go_enter Tryz.func97, Tryz.ntmps97
  go_wp2_with fail
  go_ret
  refine ⟨rfl, HM.out.below ((Below.refl _ _).alloc (Nat.le_refl _) _), Tch.of ((Below.refl _ _).alloc (Nat.le_refl _) _)⟩
end Go.Proofs.YtclpnafiiobfhabGreatDoor
namespace Go.Proofs.YtclpnafiiobfhabGreatDoor
open Go.RowKit
set_option linter.unusedVariables false
set_option linter.unusedSimpArgs false

/-- a trap as an error -/
def trapV (k : Int) : Value := if k = 0 then .nilIface else .iface 22 (.int .i64 k)
theorem trapV_0 : trapV 0 = .nilIface := rfl
theorem trapV_21 : trapV 21 = .iface 22 (.int .i64 21) := rfl
theorem trapV_22 : trapV 22 = .iface 22 (.int .i64 22) := rfl
theorem trap_any (x : Ins) (m : Nat) (d : ByteArray) (sp : Option Addr) (sc : Nat) (q : Int × Int) (a : St) (w : World) (hb : x.Bd) (hr : x.r < 4) (hd : d.size ≤ 4294967295) (hM : Mc w m (.slice sp d.size sc) q a) :
    Calls Tryz.prog 96 #[.pointer (some ⟨m, 0, none⟩), insV x] w fun e w' => e = .returned (trapV (a.trap d x)) ∧ Below w.heap.size w w' := by
  cases hu : x.uses with
  | true =>
    have hl : x.load = false := by
      unfold Ins.uses Ins.branch at hu
      unfold Ins.load
      have : x.op = 6 ∨ x.op = 7 ∨ x.op = 8 ∨ x.op = 9 ∨ x.op = 10 := by simpa [or_assoc] using hu
      rcases this with h | h | h | h | h <;> simp [h]
    have hw : x.wide = 0 := by
      unfold Ins.load at hl
      unfold Ins.wide
      simp only [Bool.or_eq_false_iff, beq_eq_false_iff_ne] at hl
      simp [hl]
    cases hh : a.set.getD x.r.toNat false with
    | false =>
      have e : a.trap d x = 21 := by unfold St.trap; rw [hu, hh]; rfl
      rw [e, trapV_21]
      exact trap_unset x m sp d.size sc q a w hb hr hM hu hh
    | true =>
      have e : a.trap d x = 0 := by
        unfold St.trap; rw [hu, hh, hw]
        rw [if_neg (by decide), if_neg (by omega)]
      rw [e, trapV_0]
      exact trap_set x m sp d.size sc q a w hb hr hM hu hl hh
  | false =>
    have e1 : a.trap d x = if (d.size : Int) < x.wide then 22 else 0 := by
      unfold St.trap; rw [hu, Bool.false_and, if_neg (by decide)]
    cases hl : x.load with
    | true =>
      refine (trap_load x m sp d.size sc q a w hb hr hM hu hl hd).mono ?_
      rintro e w' ⟨rfl, h⟩
      refine ⟨?_, h⟩
      rw [e1]
      by_cases c : (d.size : Int) < x.wide
      · rw [if_pos c, trapV_22]; simp [c]
      · rw [if_neg c, trapV_0]; simp [c]
    | false =>
      have hw : x.wide = 0 := by
        unfold Ins.load at hl
        unfold Ins.wide
        simp only [Bool.or_eq_false_iff, beq_eq_false_iff_ne] at hl
        simp [hl]
      rw [hw, if_neg (by omega)] at e1
      rw [e1, trapV_0]
      exact trap_none x m sp d.size sc q a w hb hr hM hu hl
end Go.Proofs.YtclpnafiiobfhabGreatDoor
namespace Go.Proofs.YtclpnafiiobfhabGreatDoor
open Go.RowKit
set_option linter.unusedVariables false
set_option linter.unusedSimpArgs false

/-- the frame lies apart from the machine -/
structure Dat (w : World) (m db doff dc : Nat) (d : ByteArray) : Prop where
  row : Row w db doff d
  lt : db < w.heap.size
  ne : db ≠ m
  cap : d.size ≤ dc
  most : dc ≤ maxLen
  size : d.size ≤ 4294967295
theorem Dat.tch {w w' : World} {m db doff dc : Nat} {d : ByteArray} (h : Dat w m db doff dc d) (ht : Tch m w w') : Dat w' m db doff dc d :=
  ⟨fun i hi => (ht.cell (p := ⟨db, doff + i, none⟩) h.lt h.ne).trans (h.row i hi), Nat.lt_of_lt_of_le h.lt ht.size, h.ne, h.cap, h.most, h.size⟩

theorem do_any (x : Ins) (m db doff dc : Nat) (d : ByteArray) (q : Int × Int) (a : St) (w : World) (hb : x.Bd) (hf : x.fits = true) (h0 : x.op ≠ 0) (ht : a.trap d x = 0) (ha : a.Ok) (hD : Dat w m db doff dc d) (hM : Mc w m (.slice (some ⟨db, doff, none⟩) d.size dc) q a) :
    Calls Tryz.prog 97 #[.pointer (some ⟨m, 0, none⟩), insV x] w fun e w' => e = .returned (.int .u32 (a.over x)) ∧ Mc w' m (.slice (some ⟨db, doff, none⟩) d.size dc) q (a.does d q x) ∧ Tch m w w' := by
  have bo := hb.op
  have br := hb.r
  have bt := hb.t
  have bf := hb.f
  have bk := hb.k
  have hcap := hD.cap
  have hd := hD.size
  have hf' := hf
  unfold Ins.fits at hf'
  simp only [Bool.and_eq_true, decide_eq_true_eq] at hf'
  obtain ⟨⟨⟨ho, hr⟩, _⟩, hk⟩ := hf'
  have hw : x.load = true → x.wide ≤ d.size := by
    intro hl
    have hu : x.uses = false := by
      unfold Ins.load at hl
      unfold Ins.uses Ins.branch
      have : x.op = 1 ∨ x.op = 2 ∨ x.op = 3 := by simpa [or_assoc] using hl
      rcases this with h | h | h <;> simp [h]
    unfold St.trap at ht
    rw [hu, Bool.false_and, if_neg (by decide)] at ht
    rcases Int.lt_or_le (d.size : Int) x.wide with g | g
    · rw [if_pos g] at ht; omega
    · exact g
  obtain ⟨op, r, t, f, k⟩ := x
  dsimp only at *
  obtain ⟨kn, rfl⟩ := Int.eq_ofNat_of_zero_le bk.1
  have hmx := hD.most
  have hc : op = 1 ∨ op = 2 ∨ op = 3 ∨ op = 4 ∨ op = 5 ∨ op = 6 ∨ op = 7 ∨ op = 8 ∨ op = 9 ∨ op = 10 ∨ op = 11 := by omega
  rcases hc with rfl | rfl | rfl | rfl | rfl | rfl | rfl | rfl | rfl | rfl | rfl
  · have := hw rfl
    unfold Ins.wide at this
    exact do_1 r t f kn m db doff dc d q a w ⟨br.1, hr⟩ bt bf bk ha hM hD.row hD.lt hD.ne (by simpa using this) hcap hmx
  · have := hw rfl
    unfold Ins.wide at this
    exact do_2 r t f kn m db doff dc d q a w ⟨br.1, hr⟩ bt bf bk ha hM hD.row hD.lt hD.ne (by simpa using this) hcap hmx
  · have := hw rfl
    unfold Ins.wide at this
    exact do_3 r t f kn m db doff dc d q a w ⟨br.1, hr⟩ bt bf bk ha hM hD.row hD.lt hD.ne (by simpa using this) hcap hmx
  · have hk2 : (kn : Int) < 2 := by simpa using hk
    have hk3 : kn = 0 ∨ kn = 1 := by omega
    rcases hk3 with rfl | rfl
    · exact do_4_0 r t f m _ d.size dc q a w ⟨br.1, hr⟩ ha hM
    · exact do_4_1 r t f m _ d.size dc q a w ⟨br.1, hr⟩ ha hM
  · exact do_5 r t f kn m _ d.size dc q a w ⟨br.1, hr⟩ bk ha hM hd
  · exact do_6 r t f kn m _ d.size dc q a w ⟨br.1, hr⟩ bk ha hM
  · exact do_7 r t f kn m _ d.size dc q a w ⟨br.1, hr⟩ bk ha hM (by simpa using hk)
  · exact do_8 r t f kn m _ d.size dc q a w ⟨br.1, hr⟩ bt bf bk ha hM
  · exact do_9 r t f kn m _ d.size dc q a w ⟨br.1, hr⟩ bt bf bk ha hM
  · exact do_10 r t f kn m _ d.size dc q a w ⟨br.1, hr⟩ bt bf bk ha hM
  · exact do_11 r t f kn m _ d.size dc q a w ⟨br.1, hr⟩ bk ha hM
end Go.Proofs.YtclpnafiiobfhabGreatDoor
namespace Go.Proofs.YtclpnafiiobfhabGreatDoor
open Go.RowKit
set_option linter.unusedVariables false
set_option linter.unusedSimpArgs false

/-- block g holds the n instructions of a code -/
structure Cd (w : World) (g : Nat) (s : ByteArray) (n : Nat) : Prop where
  op : ∀ j, j < n → w.cell? ⟨g, j * 5, none⟩ = some (.int .u8 (insAt s j).op)
  r : ∀ j, j < n → w.cell? ⟨g, j * 5 + 1, none⟩ = some (.int .u8 (insAt s j).r)
  t : ∀ j, j < n → w.cell? ⟨g, j * 5 + 2, none⟩ = some (.int .u8 (insAt s j).t)
  f : ∀ j, j < n → w.cell? ⟨g, j * 5 + 3, none⟩ = some (.int .u8 (insAt s j).f)
  k : ∀ j, j < n → w.cell? ⟨g, j * 5 + 4, none⟩ = some (.int .u32 (insAt s j).k)
  lt : g < w.heap.size
theorem Lst.cd {w : World} {g n : Nat} {s : ByteArray} (h : Lst w g ((List.range n).map (insAt s))) : Cd w g s n := by
  have e : ∀ j, j < n → ((List.range n).map (insAt s)).getD j ⟨0, 0, 0, 0, 0⟩ = insAt s j := fun j hj => by
    simp [List.getD_eq_getElem?_getD, hj]
  have l : ((List.range n).map (insAt s)).length = n := by simp
  exact ⟨fun j hj => by rw [← e j hj]; exact h.op j (by omega), fun j hj => by rw [← e j hj]; exact h.r j (by omega), fun j hj => by rw [← e j hj]; exact h.t j (by omega), fun j hj => by rw [← e j hj]; exact h.f j (by omega), fun j hj => by rw [← e j hj]; exact h.k j (by omega), h.lt⟩
theorem Cd.below {w w' : World} {g n : Nat} {s : ByteArray} (h : Cd w g s n) (hw : Below w.heap.size w w') : Cd w' g s n := by
  have lt := h.lt
  have hc : ∀ i, w'.cell? ⟨g, i, none⟩ = w.cell? ⟨g, i, none⟩ := fun i => hw.cell (p := ⟨g, i, none⟩) lt
  exact ⟨fun j hj => (hc _).trans (h.op j hj), fun j hj => (hc _).trans (h.r j hj), fun j hj => (hc _).trans (h.t j hj), fun j hj => (hc _).trans (h.f j hj), fun j hj => (hc _).trans (h.k j hj), Nat.lt_of_lt_of_le lt hw.size⟩
end Go.Proofs.YtclpnafiiobfhabGreatDoor
namespace Go.Proofs.YtclpnafiiobfhabGreatDoor
open Go.RowKit
set_option linter.unusedVariables false
set_option linter.unusedSimpArgs false

/-- the kind of an error as the error -/
def kindV (k : Int) : Value := trapV k

set_option maxHeartbeats 1600000 in
theorem exec_torn (p dsl : Value) (q : Int × Int) (i : Int) (w : World) (hL : Laid w)
    (hR : ∀ w', Below w.heap.size w w' → Calls Tryz.prog 95 #[p] w' fun e w'' => ∃ c, e = .returned (.tuple #[.slice none 0 0, .iface 90 (.pointer (some ⟨c, 0, none⟩))]) ∧ Below w'.heap.size w' w'' ∧ w'.heap.size ≤ c ∧ c < w''.heap.size ∧ w''.cell? ⟨c, 0, none⟩ = some (.int .i64 i) ∧ w''.cell? ⟨c, 1, none⟩ = some (.int .i64 10)) :
    Calls Tryz.prog 62 #[p, dsl, .agg #[.int .u32 q.1, .int .u32 q.2]] w fun e w' => e = .returned (.tuple #[.int .u8 0, .int .i64 0, trapV 10]) ∧ Below w.heap.size w w' := by
  have HL : Hid (Laid w) := hL
  have HR : Hid (∀ w', Below w.heap.size w w' → Calls _ _ _ w' _) := hR
  clear hL hR
  go_enter Tryz.func62, Tryz.ntmps62
  go_wp2_with fail
  refine (HR.out _ ((Below.refl _ _).alloc (Nat.le_refl _) _)).mono ?_
  rintro e w1 ⟨c, rfl, hb1, hc0, hc1, hc2, hc3⟩
  have HB1 : Hid (Below w.heap.size w w1) := ((Below.refl _ _).alloc (Nat.le_refl _) _).trans (hb1.mono (by simp))
  have HL1 : Hid (Laid w1) := HL.out.below HB1.out
  clear hb1
  go_wp2_with fail
  refine (as_hitC ⟨c, 0, none⟩ _ _ ?_ (.pointer none) ?_ ?_).mono ?_
  · exact HL1.out.alloc _
  · rw [World.cell?_alloc_at _ _ _ _ rfl]; rfl
  · exact World.frozen?_alloc_at _ _ _ _ rfl
  rintro e w2 ⟨rfl, hw2⟩
  have HB2 : Hid (Below w1.heap.size w1 w2) := by
    show Below w1.heap.size w1 w2
    rw [hw2]
    repeat (first | with_reducible exact Below.refl _ _ | with_reducible refine below_drewN ?_ _ | with_reducible refine Below.drew ?_ | with_reducible refine Below.setCell ?_ (by first | (simp; done) | (simp; omega)) _ | with_reducible refine Below.alloc ?_ (by first | (simp; done) | (simp; omega)) _)
  have hc : w2.cell? ⟨w1.heap.size, 0, none⟩ = some (.pointer (some ⟨c, 0, none⟩)) := by
    rw [hw2]
    refine World.cell?_setCell_same _ _ _ (u := .pointer none) ?_
    rw [Below.cell (B := w1.heap.size + 1) (w := w1.alloc (.cells #[.pointer none] 90)) (p := ⟨w1.heap.size, 0, none⟩) ?_ (by simp)]
    · rw [World.cell?_alloc_at _ _ _ _ (by simp)]; rfl
    · repeat (first | with_reducible exact Below.refl _ _ | with_reducible refine below_drewN ?_ _ | with_reducible refine Below.drew ?_ | with_reducible refine Below.setCell ?_ (by first | (simp; done) | (simp; omega)) _ | with_reducible refine Below.alloc ?_ (by first | (simp; done) | (simp; omega)) _)
  have g1 : w2.cell? ⟨c, 1, none⟩ = some (.int .i64 10) := by rw [HB2.out.cell (p := ⟨c, 1, none⟩) hc1]; exact hc3
  clear hw2 hc2 hc3
  go_wp2_with fail
  go_quiet (fail)
  go_wp2_with fail
  go_ret3
  exact ⟨rfl, below_drewN (HB1.out.trans (HB2.out.mono HB1.out.size)) _⟩

theorem trapV_ne {k : Int} (h : k ≠ 0) : trapV k = .iface 22 (.int .i64 k) := by unfold trapV; rw [if_neg h]
/-- what the loop keeps -/
structure Inv (w wr : World) (s : ByteArray) (n g m db doff dc : Nat) (d : ByteArray) (q : Int × Int) (i c : Nat) (a : St) (v : Int) (z : Nat) (k : Int) : Prop where
  goes : Goes s n d q i c a v z k
  ok : a.Ok
  mc : Mc wr m (.slice (some ⟨db, doff, none⟩) d.size dc) q a
  dat : Dat wr m db doff dc d
  cd : Cd wr g s n
  below : Below w.heap.size w wr
  gm : g ≠ m
  lo : w.heap.size ≤ m
  ib : i ≤ 8589934592
  ci : c ≤ i
theorem Cd.tch {w w' : World} {g n m : Nat} {s : ByteArray} (h : Cd w g s n) (hw : Tch m w w') (hn : g ≠ m) : Cd w' g s n := by
  have lt := h.lt
  have hc : ∀ i, w'.cell? ⟨g, i, none⟩ = w.cell? ⟨g, i, none⟩ := fun i => hw.cell (p := ⟨g, i, none⟩) lt hn
  exact ⟨fun j hj => (hc _).trans (h.op j hj), fun j hj => (hc _).trans (h.r j hj), fun j hj => (hc _).trans (h.t j hj), fun j hj => (hc _).trans (h.f j hj), fun j hj => (hc _).trans (h.k j hj), Nat.lt_of_lt_of_le lt hw.size⟩

set_option maxHeartbeats 3200000 in
theorem exec_run (s : ByteArray) (n : Nat) (p : Value) (db doff dc : Nat) (d : ByteArray) (q : Int × Int) (w : World) (hF : Formed s n) (v : Int) (z : Nat) (k : Int) (hG : Goes s n d q 0 0 st0 v z k)
    (hd : Row w db doff d) (hdb : db < w.heap.size) (hdc : d.size ≤ dc) (hdm : dc ≤ maxLen) (hdz : d.size ≤ 4294967295) (q0 : 0 ≤ q.1 ∧ q.1 ≤ 4294967295) (q1 : 0 ≤ q.2 ∧ q.2 ≤ 4294967295)
    (hR : ∀ w', Below w.heap.size w w' → Calls Tryz.prog 95 #[p] w' fun e w'' => e = .returned (.tuple #[.slice (some ⟨w'.heap.size, 0, none⟩) n n, .nilIface]) ∧ Below w'.heap.size w' w'' ∧ Lst w'' w'.heap.size ((List.range n).map (insAt s))) :
    Calls Tryz.prog 62 #[p, .slice (some ⟨db, doff, none⟩) d.size dc, .agg #[.int .u32 q.1, .int .u32 q.2]] w fun e w' => e = .returned (.tuple #[.int .u8 v, .int .i64 z, trapV k]) ∧ Below w.heap.size w w' := by
  have HR : Hid (∀ w', Below w.heap.size w w' → Calls _ _ _ w' _) := hR
  have HF : Hid (Formed s n) := hF
  have HD : Hid (Row w db doff d) := hd
  have HG : Hid (Goes s n d q 0 0 st0 v z k) := hG
  have hn1 := hF.pos
  have hn2 := hF.most
  clear hR hF hd hG
  go_enter Tryz.func62, Tryz.ntmps62
  go_wp2_with fail
  refine (HR.out _ ((Below.refl _ _).alloc (Nat.le_refl _) _)).mono ?_
  rintro e w1 ⟨rfl, hb1, hL⟩
  have HB1 : Hid (Below w.heap.size w w1) := ((Below.refl _ _).alloc (Nat.le_refl _) _).trans (hb1.mono (by simp))
  have HC1 : Hid (Cd w1 (w.heap.size + 1) s n) := by
    show Cd w1 (w.heap.size + 1) s n
    have := hL.cd
    simpa using this
  have e0 : w1.cell? ⟨w.heap.size, 0, none⟩ = some (.int .u32 q.1) := by rw [hb1.cell (p := ⟨w.heap.size, 0, none⟩) (by simp), World.cell?_alloc_at _ _ _ _ rfl]; rfl
  have e1 : w1.cell? ⟨w.heap.size, 1, none⟩ = some (.int .u32 q.2) := by rw [hb1.cell (p := ⟨w.heap.size, 1, none⟩) (by simp), World.cell?_alloc_at _ _ _ _ rfl]; rfl
  have hs1 : w.heap.size + 1 < w1.heap.size := HC1.out.lt
  have hs0 : w.heap.size < w1.heap.size := by omega
  clear hb1 hL HR
  go_wp2_with (go_at_call 35; refine (as_nil _ _).mono ?_; rintro e w' ⟨rfl, rfl⟩)
  go_loopw [13, 14] (fun dn at_ wr => ∃ (i c : Nat) (a : St), dn = .int .i64 c ∧ at_ = .int .u64 i ∧ Inv w wr s n (w.heap.size + 1) (w1.heap.size + 1) db doff dc d q i c a v z k) (fun _ at_ _ => n - (intOf at_).toNat)
  case atStart =>
    have hA : Below w1.heap.size w1 ((w1.alloc (.cells #[.pointer none] 90)).alloc (.cells #[.slice (some ⟨db, doff, none⟩) d.size dc, .int .u32 q.1, .int .u32 q.2, .int .u32 0, .int .u32 0, .int .u32 0, .int .u32 0, .bool false, .bool false, .bool false, .bool false] 201)) := ((Below.refl _ _).alloc (Nat.le_refl _) _).alloc (by simp) _
    refine ⟨0, 0, st0, rfl, rfl, HG.out, st0_ok, ?_, ⟨fun i hi => ?_, ?_, by omega, hdc, hdm, hdz⟩, HC1.out.below hA, HB1.out.trans (hA.mono HB1.out.size), by omega, by omega, by omega, by omega⟩
    · refine ⟨?_, ?_, ?_, fun i hi => ?_, fun i hi => ?_, fun i => World.frozen?_alloc_at _ _ _ _ (by simp), by simp⟩
      · rw [World.cell?_alloc_at _ _ _ _ (by simp)]; rfl
      · rw [World.cell?_alloc_at _ _ _ _ (by simp)]; rfl
      · rw [World.cell?_alloc_at _ _ _ _ (by simp)]; rfl
      · rw [World.cell?_alloc_at _ _ _ _ (by simp)]
        have : i = 0 ∨ i = 1 ∨ i = 2 ∨ i = 3 := by omega
        rcases this with rfl | rfl | rfl | rfl <;> rfl
      · rw [World.cell?_alloc_at _ _ _ _ (by simp)]
        have : i = 0 ∨ i = 1 ∨ i = 2 ∨ i = 3 := by omega
        rcases this with rfl | rfl | rfl | rfl <;> rfl
    · rw [hA.cell (p := ⟨db, doff + i, none⟩) (by show db < _; omega), HB1.out.cell (p := ⟨db, doff + i, none⟩) hdb]; exact HD.out i hi
    · exact Nat.lt_of_lt_of_le (by omega : db < w1.heap.size) hA.size
  case round =>
    obtain ⟨i, c, a, rfl, rfl, hI⟩ := hrel
    have HI : Hid (Inv w wr s n (w.heap.size + 1) (w1.heap.size + 1) db doff dc d q i c a v z k) := hI
    have ib := hI.ib
    have ci := hI.ci
    clear e0 e1 hI
    by_cases hlt : i < n
    · obtain ⟨x, hx⟩ : ∃ x, insAt s i = x := ⟨_, rfl⟩
      have HX : Hid (insAt s i = x) := hx
      have hbd : x.Bd := by rw [← hx]; exact insAt_bd s i
      have hfit : x.fits = true := by rw [← hx]; exact HF.out.fits i hlt
      have hr4 : x.r < 4 := by
        have := hfit
        unfold Ins.fits at this
        simp only [Bool.and_eq_true, decide_eq_true_eq] at this
        exact this.1.1.2
      have c0 := HI.out.cd.op i hlt
      have c1 := HI.out.cd.r i hlt
      have c2 := HI.out.cd.t i hlt
      have c3 := HI.out.cd.f i hlt
      have c4 := HI.out.cd.k i hlt
      rw [hx] at c0 c1 c2 c3 c4
      have gl : w.heap.size + 1 < wr.heap.size := HI.out.cd.lt
      clear hx
      have HFI : Hid (x.fits = true) := hfit
      clear hfit
      cases hop : x.op == 0
      · have HN0 : Hid (x.op ≠ 0) := by show x.op ≠ 0; simpa using hop
        have HAl : Hid (Below wr.heap.size wr (wr.alloc (insO x))) := (Below.refl _ _).alloc (Nat.le_refl _) _
        have hT := trap_any x (w1.heap.size + 1) d (some ⟨db, doff, none⟩) dc q a (wr.alloc (insO x)) hbd hr4 (by omega) (HI.out.mc.below HAl.out)
        unfold insV insO at hT
        have HT : Hid (Calls _ _ _ _ _) := hT
        clear hT
        by_cases htr : a.trap d x = 0
        · have HTR : Hid (a.trap d x = 0) := htr
          go_wp2_with fail
          refine HT.out.mono ?_
          rintro e w3 ⟨rfl, hb3⟩
          rw [HTR.out, trapV_0]
          have HB3 : Hid (Below wr.heap.size wr w3) := HAl.out.trans (hb3.mono (by simp))
          have i0 : w3.cell? ⟨wr.heap.size, 0, none⟩ = some (.int .u8 x.op) := by rw [hb3.cell (p := ⟨wr.heap.size, 0, none⟩) (by simp), World.cell?_alloc_at _ _ _ _ rfl]; rfl
          have i1 : w3.cell? ⟨wr.heap.size, 1, none⟩ = some (.int .u8 x.r) := by rw [hb3.cell (p := ⟨wr.heap.size, 1, none⟩) (by simp), World.cell?_alloc_at _ _ _ _ rfl]; rfl
          have i2 : w3.cell? ⟨wr.heap.size, 2, none⟩ = some (.int .u8 x.t) := by rw [hb3.cell (p := ⟨wr.heap.size, 2, none⟩) (by simp), World.cell?_alloc_at _ _ _ _ rfl]; rfl
          have i3 : w3.cell? ⟨wr.heap.size, 3, none⟩ = some (.int .u8 x.f) := by rw [hb3.cell (p := ⟨wr.heap.size, 3, none⟩) (by simp), World.cell?_alloc_at _ _ _ _ rfl]; rfl
          have i4 : w3.cell? ⟨wr.heap.size, 4, none⟩ = some (.int .u32 x.k) := by rw [hb3.cell (p := ⟨wr.heap.size, 4, none⟩) (by simp), World.cell?_alloc_at _ _ _ _ rfl]; rfl
          have HD3 : Hid (Dat w3 (w1.heap.size + 1) db doff dc d) := HI.out.dat.tch (Tch.of HB3.out)
          have hDo := do_any x (w1.heap.size + 1) db doff dc d q a w3 hbd HFI.out HN0.out HTR.out HI.out.ok HD3.out (HI.out.mc.below HB3.out)
          unfold insV at hDo
          have HDO : Hid (Calls _ _ _ _ _) := hDo
          have bov := a.over_bd hbd
          obtain ⟨ov, hov⟩ : ∃ ov : Nat, a.over x = ov := ⟨(a.over x).toNat, by omega⟩
          have HOV : Hid (a.over x = ov) := hov
          rw [hov] at bov
          clear hb3 hDo hov c0 c1 c2 c3 c4
          go_wp2_with fail
          refine HDO.out.mono ?_
          rintro e w4 ⟨rfl, hM4, hT4⟩
          rw [HOV.out]
          have HM4 : Hid (Mc w4 _ _ q (a.does d q x)) := hM4
          have HT4 : Hid (Tch (w1.heap.size + 1) w3 w4) := hT4
          clear hM4 hT4 i0 i1 i2 i3 i4
          go_wp2_with fail
          go_roundw
          case rel =>
            refine ⟨i + 1 + ov, c + 1, a.does d q x, by go_num, by go_num, ?_, HI.out.ok.does (by omega) q0 q1 x, HM4.out, HD3.out.tch HT4.out, (HI.out.cd.below HB3.out).tch HT4.out HI.out.gm, ?_, HI.out.gm, HI.out.lo, by omega, by omega⟩
            · have hg := HI.out.goes
              rcases hg.out with ⟨h, rfl, rfl, rfl⟩ | ⟨h, ho, rfl, rfl, rfl⟩ | ⟨h, ho, ht, rfl, rfl, rfl⟩ | ⟨h, ho, ht, hg⟩
              · omega
              · exact absurd (by rw [← HX.out]; exact ho) HN0.out
              · rw [HX.out] at ht; exact absurd HTR.out ht
              · rw [HX.out, HOV.out, Int.toNat_natCast] at hg
                exact hg
            · exact (HI.out.below.trans (HB3.out.mono HI.out.below.size)).trans (HT4.out.below HI.out.lo (Nat.le_trans HI.out.below.size HB3.out.size))
          case measure => simp [intOf]; omega
        · have HTR : Hid (a.trap d x ≠ 0) := htr
          obtain ⟨tr, htr'⟩ : ∃ tr, a.trap d x = tr := ⟨_, rfl⟩
          have HTE : Hid (a.trap d x = tr) := htr'
          have HRes : Hid (v = 0 ∧ z = c + 1 ∧ k = tr) := by
            have hg := HI.out.goes
            rcases hg.out with ⟨h, rfl, rfl, rfl⟩ | ⟨h, ho, rfl, rfl, rfl⟩ | ⟨h, ho, ht, rfl, rfl, rfl⟩ | ⟨h, ho, ht, hg⟩
            · omega
            · exact absurd (by rw [← HX.out]; exact ho) HN0.out
            · exact ⟨rfl, rfl, by rw [HX.out]; exact HTE.out⟩
            · rw [HX.out] at ht; exact absurd ht HTR.out
          clear htr htr'
          go_wp2_with fail
          refine HT.out.mono ?_
          rintro e w3 ⟨rfl, hb3⟩
          rw [trapV_ne HTR.out, HTE.out]
          have HB3 : Hid (Below wr.heap.size wr w3) := HAl.out.trans (hb3.mono (by simp))
          clear hb3 c0 c1 c2 c3 c4
          go_wp2_with fail
          go_ret3
          obtain ⟨rfl, rfl, rfl⟩ := HRes.out
          exact ⟨by rw [← trapV_ne (by rw [← HTE.out]; exact HTR.out)]; rfl, HI.out.below.trans (HB3.out.mono HI.out.below.size)⟩
      · have n0 : x.op = 0 := by simpa using hop
        have bk2 : x.k < 3 := by
          have := HFI.out
          unfold Ins.fits at this
          rw [if_pos n0] at this
          simp only [Bool.and_eq_true, decide_eq_true_eq] at this
          exact this.2.2
        have bk0 := hbd.k
        have HRes : Hid (v = x.k ∧ z = c + 1 ∧ k = 0) := by
          have hg := HI.out.goes
          rcases hg.out with ⟨h, rfl, rfl, rfl⟩ | ⟨h, ho, rfl, rfl, rfl⟩ | ⟨h, ho, ht, rfl, rfl, rfl⟩ | ⟨h, ho, ht, hg⟩
          · omega
          · exact ⟨by rw [HX.out], rfl, rfl⟩
          · rw [HX.out] at ho; exact absurd n0 ho
          · rw [HX.out] at ho; exact absurd n0 ho
        clear n0
        go_wp2_with fail
        go_ret3
        obtain ⟨rfl, rfl, rfl⟩ := HRes.out
        exact ⟨rfl, HI.out.below.alloc HI.out.below.size _⟩
    · have HRes : Hid (v = 0 ∧ z = c ∧ k = 23) := by
        have hg := HI.out.goes
        rcases hg.out with ⟨h, rfl, rfl, rfl⟩ | ⟨h, ho, rfl, rfl, rfl⟩ | ⟨h, ho, ht, rfl, rfl, rfl⟩ | ⟨h, ho, ht, hg⟩
        · exact ⟨rfl, rfl, rfl⟩
        · omega
        · omega
        · omega
      go_wp2_with fail
      go_ret3
      obtain ⟨rfl, rfl, rfl⟩ := HRes.out
      exact ⟨rfl, HI.out.below⟩
end Go.Proofs.YtclpnafiiobfhabGreatDoor
namespace Go.Proofs.YtclpnafiiobfhabGreatDoor
open Go.RowKit
set_option linter.unusedVariables false
set_option linter.unusedSimpArgs false

/-- what Exec answers -/
def Ran (s d : ByteArray) (q : Int × Int) (v : Int) (z : Nat) (k : Int) : Prop :=
  (∃ i, Torn s i ∧ v = 0 ∧ z = 0 ∧ k = 10) ∨ ∃ n, Formed s n ∧ Goes s n d q 0 0 st0 v z k
theorem ran_total (s d : ByteArray) (q : Int × Int) : ∃ v z k, Ran s d q v z k := by
  rcases torn_or s with ⟨i, h⟩ | ⟨n, h⟩
  · exact ⟨_, _, _, .inl ⟨i, h, rfl, rfl, rfl⟩⟩
  · obtain ⟨v, z, k, g⟩ := goes_total s n d q n 0 0 st0 (by omega)
    exact ⟨v, z, k, .inr ⟨n, h, g⟩⟩

theorem exec_any (s d : ByteArray) (q : Int × Int) (v : Int) (z : Nat) (k : Int) (b off cap db doff dc : Nat) (w : World) (hL : Laid w) (h : Ran s d q v z k)
    (hc : s.size ≤ cap) (hm : cap ≤ maxLen) (hb : b < w.heap.size) (hr : Row w b off s)
    (hd : Row w db doff d) (hdb : db < w.heap.size) (hdc : d.size ≤ dc) (hdm : dc ≤ maxLen) (hdz : d.size ≤ 4294967295) (q0 : 0 ≤ q.1 ∧ q.1 ≤ 4294967295) (q1 : 0 ≤ q.2 ∧ q.2 ≤ 4294967295) :
    Calls Tryz.prog 62 #[.slice (some ⟨b, off, none⟩) s.size cap, .slice (some ⟨db, doff, none⟩) d.size dc, .agg #[.int .u32 q.1, .int .u32 q.2]] w fun e w' => e = .returned (.tuple #[.int .u8 v, .int .i64 z, trapV k]) ∧ Below w.heap.size w w' := by
  have row : ∀ w', Below w.heap.size w w' → Row w' b off s := fun w' h i hi => (h.cell (p := ⟨b, off + i, none⟩) hb).trans (hr i hi)
  rcases h with ⟨i, ht, rfl, rfl, rfl⟩ | ⟨n, hF, hG⟩
  · refine exec_torn _ _ q i w hL (fun w' hw => ?_)
    rcases ht with ⟨hz, rfl⟩ | ⟨n, hz, hi, h1, h2⟩
    · refine (read_size s (some ⟨b, off, none⟩) cap w' (Nat.le_trans hc hm) hz).mono ?_
      rintro e w2 ⟨rfl, rfl⟩
      refine ⟨_, rfl, (Below.refl _ _).alloc (Nat.le_refl _) _, Nat.le_refl _, by simp, ?_, ?_⟩
      · rw [World.cell?_alloc_at _ _ _ _ rfl]; rfl
      · rw [World.cell?_alloc_at _ _ _ _ rfl]; rfl
    · exact read_ins s n i b off cap w' hc hm (Nat.lt_of_lt_of_le hb hw.size) (row w' hw) hz hi h1 h2
  · exact exec_run s n _ db doff dc d q w hF v z k hG hd hdb hdc hdm hdz q0 q1 (fun w' hw => read_fine s n b off cap w' hc hm (Nat.lt_of_lt_of_le hb hw.size) (row w' hw) hF)

set_option maxHeartbeats 400000 in
theorem fwExec_any (p dsl : Value) (q : Int × Int) (v : Int) (z : Nat) (k : Int) (w : World) (h : ∀ w', Below w.heap.size w w' → Calls Tryz.prog 62 #[p, dsl, .agg #[.int .u32 q.1, .int .u32 q.2]] w' fun e w'' => e = .returned (.tuple #[.int .u8 v, .int .i64 z, trapV k]) ∧ Below w'.heap.size w' w'') :
    Calls Tryz.prog 38 #[p, dsl, .agg #[.int .u32 q.1, .int .u32 q.2]] w fun e w' => e = .returned (.tuple #[.int .u8 v, .int .i64 z, trapV k]) ∧ Below w.heap.size w w' := by
  have H : Hid (∀ w', Below w.heap.size w w' → Calls _ _ _ w' _) := h
  clear h
  go_enter Tryz.func38, Tryz.ntmps38
  go_wp2_with fail
  refine (H.out _ ((Below.refl _ _).alloc (Nat.le_refl _) _)).mono ?_
  rintro e w1 ⟨rfl, hb⟩
  have HB : Hid (Below w.heap.size w w1) := ((Below.refl _ _).alloc (Nat.le_refl _) _).trans (hb.mono (by simp))
  clear hb H
  go_wp2_with fail
  go_ret3
  exact ⟨rfl, HB.out⟩

set_option maxHeartbeats 400000 in
theorem plExec_any (s d : ByteArray) (q : Int × Int) (v : Int) (z : Nat) (k : Int) (b off cap db doff dc : Nat) (w : World) (hL : Laid w) (h : Ran s d q v z k)
    (hc : s.size ≤ cap) (hm : cap ≤ maxLen) (hb : b < w.heap.size) (hr : Row w b off s)
    (hd : Row w db doff d) (hdb : db < w.heap.size) (hdc : d.size ≤ dc) (hdm : dc ≤ maxLen) (hdz : d.size ≤ 4294967295) (q0 : 0 ≤ q.1 ∧ q.1 ≤ 4294967295) (q1 : 0 ≤ q.2 ∧ q.2 ≤ 4294967295) :
    Calls Tryz.prog 25 #[.slice (some ⟨b, off, none⟩) s.size cap, .slice (some ⟨db, doff, none⟩) d.size dc, .agg #[.int .u32 q.1, .int .u32 q.2]] w fun e w' => e = .returned (.tuple #[.int .u8 v, .int .i64 z, .int .i64 k]) ∧ Below w.heap.size w w' := by
  have low : ∀ (B lo : Nat) (t : ByteArray) (w' : World), Below w.heap.size w w' → B < w.heap.size → Row w B lo t → Row w' B lo t := fun B lo t w' h hB g i hi => (h.cell (p := ⟨B, lo + i, none⟩) hB).trans (g i hi)
  have hE : ∀ w', Below w.heap.size w w' → Calls Tryz.prog 38 #[.slice (some ⟨b, off, none⟩) s.size cap, .slice (some ⟨db, doff, none⟩) d.size dc, .agg #[.int .u32 q.1, .int .u32 q.2]] w' fun e w'' => e = .returned (.tuple #[.int .u8 v, .int .i64 z, trapV k]) ∧ Below w'.heap.size w' w'' := fun w' hw =>
    fwExec_any _ _ q v z k w' (fun w2 hw2 => by
      have h2 := hw.trans (hw2.mono hw.size)
      exact exec_any s d q v z k b off cap db doff dc w2 (hL.below h2) h hc hm (Nat.lt_of_lt_of_le hb h2.size) (low _ _ _ _ h2 hb hr) (low _ _ _ _ h2 hdb hd) (Nat.lt_of_lt_of_le hdb h2.size) hdc hdm hdz q0 q1)
  have H : Hid (∀ w', Below w.heap.size w w' → Calls _ _ _ w' _) := hE
  have HL : Hid (Laid w) := hL
  clear hE low hr hd h hL
  go_enter Tryz.func25, Tryz.ntmps25
  go_wp2_with fail
  refine (H.out _ ((Below.refl _ _).alloc (Nat.le_refl _) _)).mono ?_
  rintro e w1 ⟨rfl, hb1⟩
  have HB1 : Hid (Below w.heap.size w w1) := ((Below.refl _ _).alloc (Nat.le_refl _) _).trans (hb1.mono (by simp))
  clear hb1 H
  by_cases hk : k = 0
  · subst hk
    rw [trapV_0]
    go_wp2_with fail
    refine (told_nil _).mono ?_
    rintro e w2 ⟨rfl, hb2⟩
    go_wp2_with fail
    go_ret3
    exact ⟨rfl, HB1.out.trans (hb2.mono HB1.out.size)⟩
  · rw [trapV_ne hk]
    clear hk
    go_wp2_with fail
    refine (told_kind k _ (HL.out.below HB1.out)).mono ?_
    rintro e w2 ⟨rfl, hb2⟩
    go_wp2_with fail
    go_ret3
    exact ⟨rfl, HB1.out.trans (hb2.mono HB1.out.size)⟩
end Go.Proofs.YtclpnafiiobfhabGreatDoor

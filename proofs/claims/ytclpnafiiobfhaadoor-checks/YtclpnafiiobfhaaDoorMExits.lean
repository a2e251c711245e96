import Derived.Test.YtclpnafiiobfhaaDoorMReads
namespace Go.Proofs.YtclpnafiiobfhaaDoor
open Go.RowKit
set_option linter.unusedVariables false
set_option linter.unusedSimpArgs false

/-- block g holds the numbers os -/
def Ovs (w : World) (g : Nat) (os : List Int) : Prop := ∀ v, v < os.length → w.cell? ⟨g, v, none⟩ = some (.int .u32 (os.getD v 0))

set_option maxHeartbeats 400000 in
theorem exits_ret (x : Ins) (w : World) (h : x.op = 0) :
    Calls Tryd.prog 79 #[insV x] w fun e w' => e = .returned (.slice none 0 0) ∧ Below w.heap.size w w' := by
  obtain ⟨op, r, t, f, k⟩ := x
  unfold insV
  dsimp only at *
  subst h
  go_enter Tryd.func79, Tryd.ntmps79
  go_wp2
  go_ret
  exact ⟨rfl, (Below.refl _ _).alloc (Nat.le_refl _) _⟩
set_option maxHeartbeats 400000 in
theorem exits_any (x : Ins) (w : World) (h : x.op ≠ 0) (hb : x.Bd) :
    Calls Tryd.prog 79 #[insV x] w fun e w' => ∃ g, e = .returned (.slice (some ⟨g, 0, none⟩) x.overs.length x.overs.length) ∧ Below w.heap.size w w' ∧ w.heap.size ≤ g ∧ g < w'.heap.size ∧ Ovs w' g x.overs := by
  have hB := isBranch_any x
  have bt := hb.t
  have bf := hb.f
  have bk := hb.k
  have h0 : (x.op == 0) = false := by simpa using h
  cases h11 : x.op == 11
  · have n11 : x.op ≠ 11 := by simpa using h11
    cases hbr : x.branch
    · have e : x.overs = [0] := by unfold Ins.overs; rw [if_neg h, if_neg n11, hbr]; rfl
      rw [e]
      rw [hbr] at hB
      clear hb hbr h n11 e
      obtain ⟨op, r, t, f, k⟩ := x
      unfold insV insO at *
      dsimp only at *
      go_enter Tryd.func79, Tryd.ntmps79
      go_wp2_with fail
      refine (hB _).mono ?_
      rintro e w' ⟨rfl, rfl⟩
      go_wp2
      go_ret
      refine ⟨_, rfl, ?_, ?_, ?_, ?_⟩
      · repeat (first | with_reducible exact Below.refl _ _ | with_reducible refine Below.alloc ?_ (by first | (simp; done) | (simp; omega)) _)
      · first | omega | (simp; done) | (simp; omega)
      · simp
      · intro v hv
        rw [World.cell?_alloc_at _ _ _ _ (by simp)]
        obtain rfl : v = 0 := by simpa using hv
        rfl
    · have e : x.overs = [x.t, x.f] := by unfold Ins.overs; rw [if_neg h, if_neg n11, hbr]; rfl
      rw [e]
      rw [hbr] at hB
      clear hb hbr h n11 e
      obtain ⟨op, r, t, f, k⟩ := x
      unfold insV insO at *
      dsimp only at *
      go_enter Tryd.func79, Tryd.ntmps79
      go_wp2_with fail
      refine (hB _).mono ?_
      rintro e w' ⟨rfl, rfl⟩
      go_wp2
      go_ret
      refine ⟨_, rfl, ?_, ?_, ?_, ?_⟩
      · repeat (first | with_reducible exact Below.refl _ _ | with_reducible refine Below.alloc ?_ (by first | (simp; done) | (simp; omega)) _)
      · first | omega | (simp; done) | (simp; omega)
      · simp
      · intro v hv
        rw [World.cell?_alloc_at _ _ _ _ (by simp)]
        rcases v with _ | _ | v
        · rfl
        · rfl
        · simp at hv; omega
  · have n11 : x.op = 11 := by simpa using h11
    have e : x.overs = [x.k] := by unfold Ins.overs; rw [if_neg h, if_pos n11]
    rw [e]
    clear hb h n11 e hB
    obtain ⟨op, r, t, f, k⟩ := x
    unfold insV
    dsimp only at *
    go_enter Tryd.func79, Tryd.ntmps79
    go_wp2_with fail
    go_ret
    refine ⟨_, rfl, ?_, ?_, ?_, ?_⟩
    · repeat (first | with_reducible exact Below.refl _ _ | with_reducible refine Below.alloc ?_ (by first | (simp; done) | (simp; omega)) _)
    · first | omega | (simp; done) | (simp; omega)
    · simp
    · intro v hv
      rw [World.cell?_alloc_at _ _ _ _ (by simp)]
      obtain rfl : v = 0 := by simpa using hv
      rfl
theorem exits_all (x : Ins) (w : World) (hb : x.Bd) :
    Calls Tryd.prog 79 #[insV x] w fun e w' => ∃ p g, e = .returned (.slice p x.overs.length x.overs.length) ∧ (0 < x.overs.length → p = some ⟨g, 0, none⟩) ∧ Below w.heap.size w w' ∧ w.heap.size ≤ g ∧ (0 < x.overs.length → g < w'.heap.size) ∧ Ovs w' g x.overs := by
  by_cases h : x.op = 0
  · refine (exits_ret x w h).mono ?_
    rintro e w' ⟨rfl, hw⟩
    have e : x.overs = [] := by unfold Ins.overs; rw [if_pos h]
    rw [e]
    exact ⟨none, w.heap.size, rfl, fun g => absurd g (by simp), hw, Nat.le_refl _, fun g => absurd g (by simp), fun v hv => by simp at hv⟩
  · refine (exits_any x w h hb).mono ?_
    rintro e w' ⟨g, rfl, hw, h1, h2, h3⟩
    exact ⟨_, g, rfl, fun _ => rfl, hw, h1, fun _ => h2, h3⟩
end Go.Proofs.YtclpnafiiobfhaaDoor

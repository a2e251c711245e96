import Derived.Test.YtclpnafiiobfhaaGreatDoorRIns
namespace Go.Proofs.YtclpnafiiobfhaaGreatDoor
open Go.RowKit
set_option linter.unusedVariables false
set_option linter.unusedSimpArgs false

/-- block g holds the n instructions of a code, as the document's answer has them -/
structure Rd (w : World) (g : Nat) (s : ByteArray) (n : Nat) : Prop where
  op : ∀ j, j < n → w.cell? ⟨g, j * 5, none⟩ = some (.int .i64 (insAt s j).op)
  r : ∀ j, j < n → w.cell? ⟨g, j * 5 + 1, none⟩ = some (.int .i64 (insAt s j).r)
  t : ∀ j, j < n → w.cell? ⟨g, j * 5 + 2, none⟩ = some (.int .i64 (insAt s j).t)
  f : ∀ j, j < n → w.cell? ⟨g, j * 5 + 3, none⟩ = some (.int .i64 (insAt s j).f)
  k : ∀ j, j < n → w.cell? ⟨g, j * 5 + 4, none⟩ = some (.int .i64 (insAt s j).k)
  lt : g < w.heap.size
theorem Rd.below {w w' : World} {g n : Nat} {s : ByteArray} (h : Rd w g s n) (hw : Below w.heap.size w w') : Rd w' g s n := by
  have lt := h.lt
  have hc : ∀ i, w'.cell? ⟨g, i, none⟩ = w.cell? ⟨g, i, none⟩ := fun i => hw.cell (p := ⟨g, i, none⟩) lt
  exact ⟨fun j hj => (hc _).trans (h.op j hj), fun j hj => (hc _).trans (h.r j hj), fun j hj => (hc _).trans (h.t j hj), fun j hj => (hc _).trans (h.f j hj), fun j hj => (hc _).trans (h.k j hj), Nat.lt_of_lt_of_le lt hw.size⟩
/-- block q holds where each way leads -/
def Wys (w : World) (q i : Nat) (os : List Int) : Prop := ∀ v, v < os.length → w.cell? ⟨q, v, none⟩ = some (.int .i64 (i + 1 + os.getD v 0))

set_option maxHeartbeats 800000 in
theorem ways_ret (x : Ins) (i n g cap : Nat) (w : World) (hi : i < n) (c0 : w.cell? ⟨g, i * 5, none⟩ = some (.int .i64 x.op)) (c1 : w.cell? ⟨g, i * 5 + 1, none⟩ = some (.int .i64 x.r)) (c2 : w.cell? ⟨g, i * 5 + 2, none⟩ = some (.int .i64 x.t)) (c3 : w.cell? ⟨g, i * 5 + 3, none⟩ = some (.int .i64 x.f)) (c4 : w.cell? ⟨g, i * 5 + 4, none⟩ = some (.int .i64 x.k)) (h : x.op = 0) :
    Calls Tryz.prog 46 #[.slice (some ⟨g, 0, none⟩) n cap, .int .i64 i] w fun e w' => e = .returned (.slice none 0 0) ∧ Below w.heap.size w w' := by
  have hq : (x.op == 0) = true := by simpa using h
  clear h
  go_enter Tryz.func46, Tryz.ntmps46
  go_wp2
  go_ret
  exact ⟨rfl, (Below.refl _ _).alloc (Nat.le_refl _) _⟩
set_option maxHeartbeats 1600000 in
theorem ways_any (x : Ins) (i n g cap : Nat) (w : World) (hi : i < n) (hn : n ≤ 4096) (hb : x.Bd) (c0 : w.cell? ⟨g, i * 5, none⟩ = some (.int .i64 x.op)) (c1 : w.cell? ⟨g, i * 5 + 1, none⟩ = some (.int .i64 x.r)) (c2 : w.cell? ⟨g, i * 5 + 2, none⟩ = some (.int .i64 x.t)) (c3 : w.cell? ⟨g, i * 5 + 3, none⟩ = some (.int .i64 x.f)) (c4 : w.cell? ⟨g, i * 5 + 4, none⟩ = some (.int .i64 x.k)) (h : x.op ≠ 0) :
    Calls Tryz.prog 46 #[.slice (some ⟨g, 0, none⟩) n cap, .int .i64 i] w fun e w' => ∃ q, e = .returned (.slice (some ⟨q, 0, none⟩) x.overs.length x.overs.length) ∧ Below w.heap.size w w' ∧ w.heap.size ≤ q ∧ q < w'.heap.size ∧ Wys w' q i x.overs := by
  have bo := hb.op
  have bt := hb.t
  have bf := hb.f
  have bk := hb.k
  have hq : (x.op == 0) = false := by simpa using h
  cases hbr : x.branch with
  | true =>
    have hc : x.op = 8 ∨ x.op = 9 ∨ x.op = 10 := by unfold Ins.branch at hbr; simpa [or_assoc] using hbr
    have e : x.overs = [x.t, x.f] := by unfold Ins.overs; rw [if_neg h, if_neg (by omega), hbr]; rfl
    rw [e]
    have g1 : 8 ≤ x.op := by omega
    have g2 : x.op ≤ 10 := by omega
    clear hb hbr hc e h
    go_enter Tryz.func46, Tryz.ntmps46
    go_wp2
    go_ret
    refine ⟨_, rfl, ?_, ?_, ?_, ?_⟩
    · repeat (first | with_reducible exact Below.refl _ _ | with_reducible refine Below.alloc ?_ (by first | (simp; done) | (simp; omega)) _)
    · first | omega | (simp; done) | (simp; omega)
    · simp
    · intro v hv
      rw [World.cell?_alloc_at _ _ _ _ (by simp)]
      rcases v with _ | _ | v
      · rfl
      · rfl
      · simp at hv; omega
  | false =>
    have hc : x.op < 8 ∨ 10 < x.op := by
      unfold Ins.branch at hbr
      simp only [Bool.or_eq_false_iff, beq_eq_false_iff_ne] at hbr
      omega
    cases h11 : x.op == 11 with
    | true =>
      have n11 : x.op = 11 := by simpa using h11
      have e : x.overs = [x.k] := by unfold Ins.overs; rw [if_neg h, if_pos n11]
      rw [e]
      have g1 : 8 ≤ x.op := by omega
      have g2 : 10 < x.op := by omega
      clear hb hbr hc e h n11
      go_enter Tryz.func46, Tryz.ntmps46
      go_wp2
      go_ret
      refine ⟨_, rfl, ?_, ?_, ?_, ?_⟩
      · repeat (first | with_reducible exact Below.refl _ _ | with_reducible refine Below.alloc ?_ (by first | (simp; done) | (simp; omega)) _)
      · first | omega | (simp; done) | (simp; omega)
      · simp
      · intro v hv
        rw [World.cell?_alloc_at _ _ _ _ (by simp)]
        obtain rfl : v = 0 := by simpa using hv
        rfl
    | false =>
      have n11 : x.op ≠ 11 := by simpa using h11
      have e : x.overs = [0] := by unfold Ins.overs; rw [if_neg h, if_neg n11, hbr]; rfl
      rw [e]
      rcases hc with g1 | g2
      · clear hb hbr e h n11
        go_enter Tryz.func46, Tryz.ntmps46
        go_wp2
        go_ret
        refine ⟨_, rfl, ?_, ?_, ?_, ?_⟩
        · repeat (first | with_reducible exact Below.refl _ _ | with_reducible refine Below.alloc ?_ (by first | (simp; done) | (simp; omega)) _)
        · first | omega | (simp; done) | (simp; omega)
        · simp
        · intro v hv
          rw [World.cell?_alloc_at _ _ _ _ (by simp)]
          obtain rfl : v = 0 := by simpa using hv
          rfl
      · have g1 : 8 ≤ x.op := by omega
        clear hb hbr e h n11
        go_enter Tryz.func46, Tryz.ntmps46
        go_wp2
        go_ret
        refine ⟨_, rfl, ?_, ?_, ?_, ?_⟩
        · repeat (first | with_reducible exact Below.refl _ _ | with_reducible refine Below.alloc ?_ (by first | (simp; done) | (simp; omega)) _)
        · first | omega | (simp; done) | (simp; omega)
        · simp
        · intro v hv
          rw [World.cell?_alloc_at _ _ _ _ (by simp)]
          obtain rfl : v = 0 := by simpa using hv
          rfl
theorem ways_all (s : ByteArray) (i n g cap : Nat) (w : World) (hi : i < n) (hn : n ≤ 4096) (hR : Rd w g s n) :
    Calls Tryz.prog 46 #[.slice (some ⟨g, 0, none⟩) n cap, .int .i64 i] w fun e w' => ∃ p q, e = .returned (.slice p (insAt s i).overs.length (insAt s i).overs.length) ∧ (0 < (insAt s i).overs.length → p = some ⟨q, 0, none⟩) ∧ Below w.heap.size w w' ∧ w.heap.size ≤ q ∧ (0 < (insAt s i).overs.length → q < w'.heap.size) ∧ Wys w' q i (insAt s i).overs := by
  by_cases h : (insAt s i).op = 0
  · refine (ways_ret (insAt s i) i n g cap w hi (hR.op i hi) (hR.r i hi) (hR.t i hi) (hR.f i hi) (hR.k i hi) h).mono ?_
    rintro e w' ⟨rfl, hw⟩
    have e : (insAt s i).overs = [] := by unfold Ins.overs; rw [if_pos h]
    rw [e]
    exact ⟨none, w.heap.size, rfl, fun g => absurd g (by simp), hw, Nat.le_refl _, fun g => absurd g (by simp), fun v hv => by simp at hv⟩
  · refine (ways_any (insAt s i) i n g cap w hi hn (insAt_bd s i) (hR.op i hi) (hR.r i hi) (hR.t i hi) (hR.f i hi) (hR.k i hi) h).mono ?_
    rintro e w' ⟨q, rfl, hw, h1, h2, h3⟩
    exact ⟨_, q, rfl, fun _ => rfl, hw, h1, fun _ => h2, h3⟩
end Go.Proofs.YtclpnafiiobfhaaGreatDoor

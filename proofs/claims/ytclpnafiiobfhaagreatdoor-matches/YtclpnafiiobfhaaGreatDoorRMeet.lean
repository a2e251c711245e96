import Derived.Test.YtclpnafiiobfhaaGreatDoorRWays
namespace Go.Proofs.YtclpnafiiobfhaaGreatDoor
open Go.RowKit
set_option linter.unusedVariables false
set_option linter.unusedSimpArgs false

/-- what is sure, as the document's answer holds it -/
def rfC (a : Fc) : Array Value := #[.bool a.come, .bool (a.set.getD 0 false), .bool (a.set.getD 1 false), .bool (a.set.getD 2 false), .bool (a.set.getD 3 false), .bool (a.long.getD 0 false), .bool (a.long.getD 1 false), .bool (a.long.getD 2 false), .bool (a.long.getD 3 false), .int .i64 a.there]
def rfV (a : Fc) : Value := .agg (rfC a)
theorem rlist4 {l : List Bool} (h : l.length = 4) : ∃ a b c d, l = [a, b, c, d] := by
  match l, h with
  | [a, b, c, d], _ => exact ⟨a, b, c, d, rfl⟩
/-- three new blocks, and nothing else -/
def RGrew3 (w w' : World) : Prop := ∃ O1 O2 O3 : Obj, w' = ((w.alloc O1).alloc O2).alloc O3
theorem RGrew3.below {w w' : World} (h : RGrew3 w w') : Below w.heap.size w w' := by
  obtain ⟨O1, O2, O3, rfl⟩ := h
  exact (((Below.refl _ _).alloc (Nat.le_refl _) _).alloc (by simp) _).alloc (by simp; omega) _
def rmb (j i : Nat) (p q : Bool) : Bool := if i < j then p && q else p

set_option maxHeartbeats 800000 in
theorem met_new (a b : Fc) (w : World) (ha : a.come = false) :
    Calls Tryz.prog 48 #[rfV a, rfV b] w fun e w' => e = .returned (rfV b) ∧ RGrew3 w w' := by
  unfold rfV rfC
  rw [ha]
  generalize a.set.getD 0 false = s0
  generalize a.set.getD 1 false = s1
  generalize a.set.getD 2 false = s2
  generalize a.set.getD 3 false = s3
  generalize a.long.getD 0 false = l0
  generalize a.long.getD 1 false = l1
  generalize a.long.getD 2 false = l2
  generalize a.long.getD 3 false = l3
  generalize a.there = th
  generalize b.come = y
  generalize b.set.getD 0 false = t0
  generalize b.set.getD 1 false = t1
  generalize b.set.getD 2 false = t2
  generalize b.set.getD 3 false = t3
  generalize b.long.getD 0 false = m0
  generalize b.long.getD 1 false = m1
  generalize b.long.getD 2 false = m2
  generalize b.long.getD 3 false = m3
  generalize b.there = tj
  go_enter Tryz.func48, Tryz.ntmps48
  go_wp2
  refine bodyPost_ret (v := .agg #[.bool y, .bool t0, .bool t1, .bool t2, .bool t3, .bool m0, .bool m1, .bool m2, .bool m3, .int .i64 tj]) (by simp [results, Tryz.results48, go_sem]) rfl ⟨rfl, ?_⟩
  exact ⟨_, _, _, rfl⟩

set_option maxHeartbeats 3200000 in
theorem met_both (a0 a1 a2 a3 b0 b1 b2 b3 d0 d1 d2 d3 e0 e1 e2 e3 : Bool) (th tj : Int) (w : World) (hth : 0 ≤ th ∧ th ≤ 4294967295) (htj : 0 ≤ tj ∧ tj ≤ 4294967295) :
    Calls Tryz.prog 48 #[.agg #[.bool true, .bool a0, .bool a1, .bool a2, .bool a3, .bool b0, .bool b1, .bool b2, .bool b3, .int .i64 th], .agg #[.bool true, .bool d0, .bool d1, .bool d2, .bool d3, .bool e0, .bool e1, .bool e2, .bool e3, .int .i64 tj]] w fun e w' =>
      e = .returned (.agg #[.bool true, .bool (a0 && d0), .bool (a1 && d1), .bool (a2 && d2), .bool (a3 && d3), .bool (b0 && e0), .bool (b1 && e1), .bool (b2 && e2), .bool (b3 && e3), .int .i64 (if tj < th then tj else th)]) ∧ RGrew3 w w' := by
  obtain ⟨m, hm⟩ : ∃ m, (if tj < th then tj else th) = m := ⟨_, rfl⟩
  rw [hm]
  have HM : Hid ((if tj < th then tj else th) = m) := hm
  clear hm
  go_enter Tryz.func48, Tryz.ntmps48
  go_wp2
  go_loopw [5] (fun i wr => ∃ (j : Nat) (p0 p1 p2 p3 q0 q1 q2 q3 : Bool), j ≤ 4 ∧ i = .int .i64 j ∧ Hid (p0 = rmb j 0 a0 d0 ∧ p1 = rmb j 1 a1 d1 ∧ p2 = rmb j 2 a2 d2 ∧ p3 = rmb j 3 a3 d3 ∧ q0 = rmb j 0 b0 e0 ∧ q1 = rmb j 1 b1 e1 ∧ q2 = rmb j 2 b2 e2 ∧ q3 = rmb j 3 b3 e3) ∧
      wr = ((w.alloc (.cells #[.bool true, .bool p0, .bool p1, .bool p2, .bool p3, .bool q0, .bool q1, .bool q2, .bool q3, .int .i64 th] 111)).alloc (.cells #[.bool true, .bool d0, .bool d1, .bool d2, .bool d3, .bool e0, .bool e1, .bool e2, .bool e3, .int .i64 tj] 111)).alloc (.cells #[.bool false, .bool false, .bool false, .bool false, .bool false, .bool false, .bool false, .bool false, .bool false, .int .i64 0] 111)) (fun i _ => 4 - (intOf i).toNat)
  case atStart => exact ⟨0, a0, a1, a2, a3, b0, b1, b2, b3, by omega, rfl, ⟨rfl, rfl, rfl, rfl, rfl, rfl, rfl, rfl⟩, rfl⟩
  case round =>
    obtain ⟨j, p0, p1, p2, p3, q0, q1, q2, q3, hj, rfl, HS, rfl⟩ := hrel
    by_cases hlt : j < 4
    · have hc : j = 0 ∨ j = 1 ∨ j = 2 ∨ j = 3 := by omega
      rcases hc with rfl | rfl | rfl | rfl
      · cases p0 <;> cases q0
        all_goals
          go_wp2
          go_roundw
          case rel =>
            obtain ⟨g0, g1, g2, g3, g4, g5, g6, g7⟩ := HS.out
            refine ⟨1, _, _, _, _, _, _, _, _, by omega, by go_num, ?_, rfl⟩
            refine ⟨?_, ?_, ?_, ?_, ?_, ?_, ?_, ?_⟩
            all_goals (simp [rmb] at *; try simp [*])
          case measure => simp [intOf]
      · cases p1 <;> cases q1
        all_goals
          go_wp2
          go_roundw
          case rel =>
            obtain ⟨g0, g1, g2, g3, g4, g5, g6, g7⟩ := HS.out
            refine ⟨2, _, _, _, _, _, _, _, _, by omega, by go_num, ?_, rfl⟩
            refine ⟨?_, ?_, ?_, ?_, ?_, ?_, ?_, ?_⟩
            all_goals (simp [rmb] at *; try simp [*])
          case measure => simp [intOf]
      · cases p2 <;> cases q2
        all_goals
          go_wp2
          go_roundw
          case rel =>
            obtain ⟨g0, g1, g2, g3, g4, g5, g6, g7⟩ := HS.out
            refine ⟨3, _, _, _, _, _, _, _, _, by omega, by go_num, ?_, rfl⟩
            refine ⟨?_, ?_, ?_, ?_, ?_, ?_, ?_, ?_⟩
            all_goals (simp [rmb] at *; try simp [*])
          case measure => simp [intOf]
      · cases p3 <;> cases q3
        all_goals
          go_wp2
          go_roundw
          case rel =>
            obtain ⟨g0, g1, g2, g3, g4, g5, g6, g7⟩ := HS.out
            refine ⟨4, _, _, _, _, _, _, _, _, by omega, by go_num, ?_, rfl⟩
            refine ⟨?_, ?_, ?_, ?_, ?_, ?_, ?_, ?_⟩
            all_goals (simp [rmb] at *; try simp [*])
          case measure => simp [intOf]
    · have e : j = 4 := by omega
      subst e
      obtain ⟨g0, g1, g2, g3, g4, g5, g6, g7⟩ := HS.out
      clear HS
      simp only [rmb, show (0 : Nat) < 4 by omega, show (1 : Nat) < 4 by omega, show (2 : Nat) < 4 by omega, show (3 : Nat) < 4 by omega, if_true] at g0 g1 g2 g3 g4 g5 g6 g7
      subst g0 g1 g2 g3 g4 g5 g6 g7
      by_cases hmin : tj < th
      · have hm : tj = m := by rw [← HM.out, if_pos hmin]
        subst hm
        clear HM
        go_wp2_with fail
        refine bodyPost_ret (v := .agg #[.bool true, .bool (a0 && d0), .bool (a1 && d1), .bool (a2 && d2), .bool (a3 && d3), .bool (b0 && e0), .bool (b1 && e1), .bool (b2 && e2), .bool (b3 && e3), .int .i64 tj]) (by simp [results, Tryz.results48, go_sem]) rfl ⟨rfl, ?_⟩
        exact ⟨_, _, _, rfl⟩
      · have hm : th = m := by rw [← HM.out, if_neg hmin]
        subst hm
        clear HM
        have hmin : th ≤ tj := by omega
        go_wp2_with fail
        refine bodyPost_ret (v := .agg #[.bool true, .bool (a0 && d0), .bool (a1 && d1), .bool (a2 && d2), .bool (a3 && d3), .bool (b0 && e0), .bool (b1 && e1), .bool (b2 && e2), .bool (b3 && e3), .int .i64 th]) (by simp [results, Tryz.results48, go_sem]) rfl ⟨rfl, ?_⟩
        exact ⟨_, _, _, rfl⟩

theorem met_any (a b : Fc) (w : World) (ha : a.Ok) (hb : b.Ok) (hbc : b.come = true) :
    Calls Tryz.prog 48 #[rfV a, rfV b] w fun e w' => e = .returned (rfV (a.meet b)) ∧ RGrew3 w w' := by
  cases hc : a.come with
  | false =>
    have e : a.meet b = b := by unfold Fc.meet; rw [hc]; rfl
    rw [e]; exact met_new a b w hc
  | true =>
    have h1 := ha.there
    have h2 := hb.there
    obtain ⟨a0, a1, a2, a3, e1⟩ := rlist4 ha.set
    obtain ⟨b0, b1, b2, b3, e2⟩ := rlist4 ha.long
    obtain ⟨d0, d1, d2, d3, e3⟩ := rlist4 hb.set
    obtain ⟨f0, f1, f2, f3, e4⟩ := rlist4 hb.long
    obtain ⟨c, asl, all, th⟩ := a
    obtain ⟨c', bsl, bll, tj⟩ := b
    dsimp only at *
    subst e1 e2 e3 e4 hc hbc
    exact met_both a0 a1 a2 a3 b0 b1 b2 b3 d0 d1 d2 d3 f0 f1 f2 f3 th tj w h1 h2
end Go.Proofs.YtclpnafiiobfhaaGreatDoor

import Derived.Test.YtclpnafiiobfhaaDoorMUses
import Derived.Test.YtclpnafiiobfhaaDoorTold
namespace Go.Proofs.YtclpnafiiobfhaaDoor
open Go.RowKit
set_option linter.unusedVariables false
set_option linter.unusedSimpArgs false

/-- an error of a code: none, or its kind and place -/
def ErrIs (w : World) (v : Value) (k i : Int) : Prop :=
  (k = 0 ∧ i = 0 ∧ v = .nilIface) ∨ ∃ c : Nat, v = .iface 68 (.pointer (some ⟨c, 0, none⟩)) ∧ c < w.heap.size ∧ w.cell? ⟨c, 0, none⟩ = some (.int .i64 i) ∧ w.cell? ⟨c, 1, none⟩ = some (.int .i64 k)
theorem ErrIs.below {w w' : World} {v : Value} {k i : Int} (h : ErrIs w v k i) (hb : Below w.heap.size w w') : ErrIs w' v k i := by
  rcases h with h | ⟨c, h1, h2, h3, h4⟩
  · exact .inl h
  · exact .inr ⟨c, h1, Nat.lt_of_lt_of_le h2 hb.size, (hb.cell (p := ⟨c, 0, none⟩) h2).trans h3, (hb.cell (p := ⟨c, 1, none⟩) h2).trans h4⟩
/-- an error is taken apart as it was made -/
theorem told_err (v : Value) (k i : Int) (w : World) (hL : Laid w) (h : ErrIs w v k i) :
    Calls Tryd.prog 30 #[v] w fun e w' => e = .returned (.tuple #[.int .i64 k, .int .i64 i]) ∧ Below w.heap.size w w' := by
  rcases h with ⟨rfl, rfl, rfl⟩ | ⟨c, rfl, h2, h3, h4⟩
  · exact told_nil w
  · exact told_code c k i w hL h2 h3 h4

set_option maxHeartbeats 800000 in
theorem check_torn (p : Value) (i : Int) (w : World)
    (hR : Calls Tryd.prog 65 #[p] w fun e w' => ∃ c, e = .returned (.tuple #[.slice none 0 0, .iface 68 (.pointer (some ⟨c, 0, none⟩))]) ∧ Below w.heap.size w w' ∧ w.heap.size ≤ c ∧ c < w'.heap.size ∧ w'.cell? ⟨c, 0, none⟩ = some (.int .i64 i) ∧ w'.cell? ⟨c, 1, none⟩ = some (.int .i64 10)) :
    Calls Tryd.prog 48 #[p] w fun e w' => ∃ v, e = .returned v ∧ Below w.heap.size w w' ∧ ErrIs w' v 10 i := by
  go_enter Tryd.func48, Tryd.ntmps48
  go_wp2_with fail
  refine hR.mono ?_
  rintro e w1 ⟨c, rfl, hb, h0, h1, h2, h3⟩
  clear hR
  go_wp2_with fail
  go_ret
  exact ⟨_, rfl, hb, .inr ⟨c, rfl, h1, h2, h3⟩⟩

set_option maxHeartbeats 800000 in
theorem check_jump (s : ByteArray) (p : Value) (n : Nat) (i : Int) (w : World)
    (hR : Calls Tryd.prog 65 #[p] w fun e w' => e = .returned (.tuple #[.slice (some ⟨w.heap.size, 0, none⟩) n n, .nilIface]) ∧ Below w.heap.size w w' ∧ Lst w' w.heap.size ((List.range n).map (insAt s)))
    (hJ : ∀ w', Cd w' w.heap.size s n → Calls Tryd.prog 66 #[.slice (some ⟨w.heap.size, 0, none⟩) n n] w' fun e w'' => ∃ c, e = .returned (.iface 68 (.pointer (some ⟨c, 0, none⟩))) ∧ Below w'.heap.size w' w'' ∧ w'.heap.size ≤ c ∧ c < w''.heap.size ∧ w''.cell? ⟨c, 0, none⟩ = some (.int .i64 i) ∧ w''.cell? ⟨c, 1, none⟩ = some (.int .i64 11)) :
    Calls Tryd.prog 48 #[p] w fun e w' => ∃ v, e = .returned v ∧ Below w.heap.size w w' ∧ ErrIs w' v 11 i := by
  go_enter Tryd.func48, Tryd.ntmps48
  go_wp2_with fail
  refine hR.mono ?_
  rintro e w1 ⟨rfl, hb, hL⟩
  clear hR
  go_wp2_with fail
  refine (hJ _ hL.cd).mono ?_
  rintro e w2 ⟨c, rfl, hb2, h0, h1, h2, h3⟩
  clear hJ
  go_wp2_with fail
  go_ret
  exact ⟨_, rfl, hb.trans (hb2.mono hb.size), .inr ⟨c, rfl, h1, h2, h3⟩⟩

set_option maxHeartbeats 800000 in
theorem check_use (s : ByteArray) (p : Value) (n : Nat) (k i : Int) (w : World)
    (hR : Calls Tryd.prog 65 #[p] w fun e w' => e = .returned (.tuple #[.slice (some ⟨w.heap.size, 0, none⟩) n n, .nilIface]) ∧ Below w.heap.size w w' ∧ Lst w' w.heap.size ((List.range n).map (insAt s)))
    (hJ : ∀ w', Cd w' w.heap.size s n → Calls Tryd.prog 66 #[.slice (some ⟨w.heap.size, 0, none⟩) n n] w' fun e w'' => e = .returned .nilIface ∧ Below w'.heap.size w' w'')
    (hU : ∀ w', Cd w' w.heap.size s n → Calls Tryd.prog 67 #[.slice (some ⟨w.heap.size, 0, none⟩) n n] w' fun e w'' => ∃ v, e = .returned v ∧ Below w'.heap.size w' w'' ∧ ErrIs w'' v k i) :
    Calls Tryd.prog 48 #[p] w fun e w' => ∃ v, e = .returned v ∧ Below w.heap.size w w' ∧ ErrIs w' v k i := by
  go_enter Tryd.func48, Tryd.ntmps48
  go_wp2_with fail
  refine hR.mono ?_
  rintro e w1 ⟨rfl, hb, hL⟩
  clear hR
  go_wp2_with fail
  refine (hJ _ hL.cd).mono ?_
  rintro e w2 ⟨rfl, hb2⟩
  clear hJ
  go_wp2_with fail
  refine (hU _ (hL.cd.below hb2)).mono ?_
  rintro e w3 ⟨v, rfl, hb3, hE⟩
  clear hU
  go_wp2_with fail
  go_ret
  exact ⟨_, rfl, (hb.trans (hb2.mono hb.size)).trans (hb3.mono (Nat.le_trans hb.size hb2.size)), hE⟩

theorem check_any (s : ByteArray) (k i : Int) (b off cap : Nat) (w : World) (hc : s.size ≤ cap) (hm : cap ≤ maxLen) (hb : b < w.heap.size) (hr : Row w b off s) (h : Out s k i) :
    Calls Tryd.prog 48 #[.slice (some ⟨b, off, none⟩) s.size cap] w fun e w' => ∃ v, e = .returned v ∧ Below w.heap.size w w' ∧ ErrIs w' v k i := by
  rcases h with ⟨i, ht, rfl, rfl⟩ | ⟨n, i, hF, hi, h1, h2, rfl, rfl⟩ | ⟨n, i, hJ, hi, h1, h2, h3, h4, rfl⟩ | ⟨n, hF, rfl, rfl⟩
  · rcases ht with ⟨hz, rfl⟩ | ⟨n, hz, hi, h1, h2⟩
    · refine check_torn _ _ w ((read_size s (some ⟨b, off, none⟩) cap w (Nat.le_trans hc hm) hz).mono ?_)
      rintro e w' ⟨rfl, rfl⟩
      refine ⟨_, rfl, (Below.refl _ _).alloc (Nat.le_refl _) _, Nat.le_refl _, by simp, ?_, ?_⟩
      · rw [World.cell?_alloc_at _ _ _ _ rfl]; rfl
      · rw [World.cell?_alloc_at _ _ _ _ rfl]; rfl
    · exact check_torn _ _ w (read_ins s n i b off cap w hc hm hb hr hz hi h1 h2)
  · exact check_jump s _ n i w (read_fine s n b off cap w hc hm hb hr hF) (fun w' hC => jumps_bad s n i _ w' hF.most hC hi h1 h2)
  · refine check_use s _ n _ i w (read_fine s n b off cap w hc hm hb hr hJ.toFormed) (fun w' hC => jumps_fine s n _ w' hJ.most hC hJ.fine) (fun w' hC => ?_)
    refine (cuses_any s n _ i k w' hC hJ (by omega) h4 (fun _ => ⟨h1, h2, h3⟩)).mono ?_
    rintro e w2 ⟨hb2, _, hE⟩
    obtain ⟨c, rfl, _, e2, e3, e4⟩ := hE hi
    exact ⟨_, rfl, hb2, .inr ⟨c, rfl, e2, e3, e4⟩⟩
  · refine check_use s _ n 0 0 w (read_fine s n b off cap w hc hm hb hr hF.toFormed) (fun w' hC => jumps_fine s n _ w' hF.most hC hF.fine) (fun w' hC => ?_)
    refine (cuses_any s n _ n 0 w' hC hF.toJumps (Nat.le_refl _) hF.uses (fun q => absurd q (by omega))).mono ?_
    rintro e w2 ⟨hb2, hE, _⟩
    exact ⟨_, hE rfl, hb2, .inl ⟨rfl, rfl, rfl⟩⟩

set_option maxHeartbeats 400000 in
theorem fwCheck_any (p : Value) (k i : Int) (w : World) (h : Calls Tryd.prog 48 #[p] w fun e w' => ∃ v, e = .returned v ∧ Below w.heap.size w w' ∧ ErrIs w' v k i) :
    Calls Tryd.prog 35 #[p] w fun e w' => ∃ v, e = .returned v ∧ Below w.heap.size w w' ∧ ErrIs w' v k i := by
  go_enter Tryd.func35, Tryd.ntmps35
  go_wp2_with fail
  refine h.mono ?_
  rintro e w1 ⟨v, rfl, hb, hE⟩
  clear h
  go_wp2_with fail
  go_ret
  exact ⟨_, rfl, hb, hE⟩
set_option maxHeartbeats 400000 in
theorem plCheck_any (s : ByteArray) (k i : Int) (b off cap : Nat) (w : World) (hL : Laid w) (hc : s.size ≤ cap) (hm : cap ≤ maxLen) (hb : b < w.heap.size) (hr : Row w b off s) (h : Out s k i) :
    Calls Tryd.prog 25 #[.slice (some ⟨b, off, none⟩) s.size cap] w fun e w' => e = .returned (.tuple #[.int .i64 k, .int .i64 i]) ∧ Below w.heap.size w w' := by
  have hC := fwCheck_any _ k i w (check_any s k i b off cap w hc hm hb hr h)
  have HL : Hid (Laid w) := hL
  clear hL hr h
  go_enter Tryd.func25, Tryd.ntmps25
  go_wp2_with fail
  refine hC.mono ?_
  rintro e w1 ⟨v, rfl, hb1, hE⟩
  clear hC
  go_wp2_with fail
  refine (told_err v k i _ (HL.out.below hb1) hE).mono ?_
  rintro e w2 ⟨rfl, hb2⟩
  go_wp2_with fail
  go_ret2
  exact ⟨rfl, hb1.trans (hb2.mono hb1.size)⟩
end Go.Proofs.YtclpnafiiobfhaaDoor

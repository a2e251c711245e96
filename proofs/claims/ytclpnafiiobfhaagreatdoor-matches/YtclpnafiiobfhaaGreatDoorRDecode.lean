import Derived.Test.YtclpnafiiobfhaaGreatDoorRWays
import Derived.Test.YtclpnafiiobfhaaGreatDoorRefNum
import Derived.Deep.RegionHeld3
import Derived.Deep.CutRange
import Derived.Deep.AppendLies
import Derived.StillTactics
import Derived.OwnWalk
import Derived.Laws.OwnMore
import Derived.KernelRfl
namespace Go.Proofs.YtclpnafiiobfhaaGreatDoor
open Go.RowKit
set_option linter.unusedVariables false
set_option linter.unusedSimpArgs false

def refCells (x : Ins) : List Value := [.int .i64 x.op, .int .i64 x.r, .int .i64 x.t, .int .i64 x.f, .int .i64 x.k]
/-- the cells of the first j instructions -/
def cellsTo (s : ByteArray) : Nat → List Value
  | 0 => []
  | j + 1 => cellsTo s j ++ refCells (insAt s j)
theorem cellsTo_len (s : ByteArray) (j : Nat) : (cellsTo s j).length = j * 5 := by
  induction j with
  | zero => rfl
  | succ j ih => simp [cellsTo, ih, refCells]; omega
theorem cellsTo_at (s : ByteArray) (n j c : Nat) (hj : j < n) (hc : c < 5) : (cellsTo s n)[j * 5 + c]? = (refCells (insAt s j))[c]? := by
  induction n with
  | zero => omega
  | succ n ih =>
    rw [cellsTo]
    by_cases e : j = n
    · subst e
      rw [List.getElem?_append_right (by rw [cellsTo_len]; omega), cellsTo_len]
      congr 1; omega
    · rw [List.getElem?_append_left (by rw [cellsTo_len]; omega)]
      exact ih (by omega)
theorem Tryz.infoIns : (Tryz.prog.info? 82).map (fun i => (i.zero, i.size, i.bytes)) = some (some (.agg #[.int .i64 0, .int .i64 0, .int .i64 0, .int .i64 0, .int .i64 0]), 5, 40) := by kernel_rfl
theorem own_rd {w : World} {B g cap n : Nat} {s : ByteArray} (h : w.ownsRow B 82 5 (.slice (some ⟨g, 0, none⟩) n cap) n (cellsTo s n)) (hn : 0 < n) : Rd w g s n := by
  have c : ∀ j c, j < n → c < 5 → w.cell? ⟨g, j * 5 + c, none⟩ = (refCells (insAt s j))[c]? := fun j c hj hc => by
    rw [h.cellAt _ (by omega), cellsTo_at s n j c hj hc]
  obtain ⟨g', cap', e, _, hl⟩ := h.form hn
  cases e
  exact ⟨fun j hj => c j 0 hj (by omega), fun j hj => c j 1 hj (by omega), fun j hj => c j 2 hj (by omega), fun j hj => c j 3 hj (by omega), fun j hj => c j 4 hj (by omega), hl⟩

set_option maxRecDepth 100000 in
set_option maxHeartbeats 40000000 in
theorem decode_any (s : ByteArray) (n : Nat) (w : World) (h : Sized s n) :
    Calls Tryz.prog 35 #[.string s] w fun e w' => ∃ g cap, e = .returned (.slice (some ⟨g, 0, none⟩) n cap) ∧ Below w.heap.size w w' ∧ w.heap.size ≤ g ∧ Rd w' g s n := by
  have hz := h.size
  have h1 := h.pos
  have h2 := h.most
  have hs : s.size ≤ maxLen := by unfold maxLen; omega
  obtain ⟨i0, hi0, hz0, hz1, hz2⟩ := info_parts Tryz.infoIns
  have HZ : Hid (s.size = 8 * n) := hz
  have hs2 : s.size ≤ 32768 := by omega
  clear h hz
  go_enter Tryz.func35, Tryz.ntmps35
  go_wp2_with fail
  go_loopw [3, 4] (fun v i wr => ∃ j : Nat, j ≤ n ∧ i = .int .i64 ((8 * j : Nat) : Int) ∧ wr.ownsRow w.heap.size 82 5 v j (cellsTo s j) ∧ Below w.heap.size w wr) (fun _ i _ => 8 * n - (intOf i).toNat)
  case atStart => exact ⟨0, Nat.zero_le _, rfl, World.ownsRow_nil _ _ _ _, Below.refl _ _⟩
  case round =>
    obtain ⟨j, hj, rfl, hO, hB⟩ := hrel
    by_cases hlt : j < n
    · obtain ⟨p, hp⟩ : ∃ p, 8 * j = p := ⟨_, rfl⟩
      have HP : Hid (8 * j = p) := hp
      have hpz : p + 8 ≤ s.size := by have := HZ.out; omega
      rw [hp]
      clear hp
      have x1 : (p : Int) + 8 ≤ (s.size : Int) := by omega
      have y0 := nth_at s p (by omega)
      have y1 := nth_at s (p + 1) (by omega)
      have y2 := nth_at s (p + 2) (by omega)
      have y3 := nth_at s (p + 3) (by omega)
      have b0 := nth_bd s p
      have b1 := nth_bd s (p + 1)
      have b2 := nth_bd s (p + 2)
      have b3 := nth_bd s (p + 3)
      have n1 : (0 : Int) ≤ (p : Int) + 1 := by omega
      have n2 : (0 : Int) ≤ (p : Int) + 2 := by omega
      have n3 : (0 : Int) ≤ (p : Int) + 3 := by omega
      have t1 : ((p : Int) + 1).toNat = p + 1 := by omega
      have t2 : ((p : Int) + 2).toNat = p + 2 := by omega
      have t3 : ((p : Int) + 3).toNat = p + 3 := by omega
      have v1 : IntKind.i64.wrap ((p : Int) + 1) = (p : Int) + 1 := by rw [IntKind.wrap_i64]; omega
      have v2 : IntKind.i64.wrap ((p : Int) + 2) = (p : Int) + 2 := by rw [IntKind.wrap_i64]; omega
      have v3 : IntKind.i64.wrap ((p : Int) + 3) = (p : Int) + 3 := by rw [IntKind.wrap_i64]; omega
      have e0 : IntKind.i64.wrap (nth s p) = nth s p := by rw [IntKind.wrap_i64]; omega
      have e1 : IntKind.i64.wrap (nth s (p + 1)) = nth s (p + 1) := by rw [IntKind.wrap_i64]; omega
      have e2 : IntKind.i64.wrap (nth s (p + 2)) = nth s (p + 2) := by rw [IntKind.wrap_i64]; omega
      have e3 : IntKind.i64.wrap (nth s (p + 3)) = nth s (p + 3) := by rw [IntKind.wrap_i64]; omega
      have z0 : (p : Int) < (s.size : Int) := by omega
      have z1 : (p : Int) + 1 < (s.size : Int) := by omega
      have z2 : (p : Int) + 2 < (s.size : Int) := by omega
      have z3 : (p : Int) + 3 < (s.size : Int) := by omega
      have HO : Hid (wr.ownsRow w.heap.size 82 5 u3 j (cellsTo s j)) := hO
      have HB : Hid (Below w.heap.size w wr) := hB
      have hN := num_any s ((p : Int) + 4) 4 wr hs (by omega) (by omega) (by omega) (by omega)
      rw [show ((p : Int) + 4).toNat = p + 4 by omega, tn4] at hN
      have HN : Hid (Calls _ _ _ wr _) := hN
      clear hO hB hN
      go_upto_region 6 with (go_at_call 32; refine HN.out.mono ?_; rintro e w' ⟨rfl, hw'⟩; obtain rfl : wr = w' := hw'.symm)
      go_region_held3 (fun _ => True) (trivial) ((refine step_append_lies _ (by rfl) _ _ _ (by rfl) w.heap.size 82 i0 _ 5 40 Tryz.underlying77 hi0 hz0 hz1 hz2 rfl (by omega) u3 j (cellsTo s j) (by rfl) ((HO.out.alloc _).drew) ⟨wr.heap.size, 0, none⟩ 1 1 [.int .i64 (nth s p), .int .i64 (nth s (p + 1)), .int .i64 (nth s (p + 2)), .int .i64 (nth s (p + 3)), .int .i64 (numv s (p + 4) 4)] (by rfl) (by rfl) (World.news_of_block (cs := #[.int .i64 (nth s p), .int .i64 (nth s (p + 1)), .int .i64 (nth s (p + 2)), .int .i64 (nth s (p + 3)), .int .i64 (numv s (p + 4) 4)]) (t := 82) (fr := (0, 0)) (heap_alloc_new wr _)) (by simp [Value.oneCell']) (by omega) (by unfold maxLen; omega) (by omega) (by have := HB.out.size; simp; omega) (wr.heap.size + 1) (by simp) ?_; intro gg cap w1 hown1 hgrow hat hlt1))
      all_goals
        have HO1 : Hid (w1.ownsRow w.heap.size 82 5 (.slice (some ⟨gg, 0, none⟩) (j + 1) cap) (j + 1) (cellsTo s (j + 1))) := by
          rw [cellsTo, insAt, HP.out]
          exact hown1
        have HB1 : Hid (Below w.heap.size w w1) := by
          refine Below.grown (w := (wr.alloc (.cells #[.int .i64 (nth s p), .int .i64 (nth s (p + 1)), .int .i64 (nth s (p + 2)), .int .i64 (nth s (p + 3)), .int .i64 (numv s (p + 4) 4)] 82)).drew) (Below.drew (HB.out.alloc HB.out.size _)) hgrow (by have := HB.out.size; simp; omega) (fun k hk => ?_)
          rcases HO.out.2 with ⟨e, _⟩ | ⟨g, cap, cur, e, hg, _⟩
          · subst e; cases hk
          · subst e; cases hk; exact hg
        clear hown1 hgrow hat hlt1
        go_wp2_with fail
        go_roundw
        case rel => exact ⟨j + 1, by omega, by rw [← HP.out]; go_num, HO1.out, HB1.out⟩
        case measure => have := HP.out; simp [intOf]; omega
    · have e : j = n := by omega
      subst e
      have hgt : (s.size : Int) < ((8 * j : Nat) : Int) + 8 := by have := HZ.out; omega
      obtain ⟨g, cap, rfl, hg, hl⟩ := hO.form (by omega)
      have HO : Hid (_) := hO
      have HB : Hid (Below w.heap.size w wr) := hB
      clear hO hB
      go_wp2_with fail
      go_ret
      exact ⟨g, cap, rfl, HB.out, hg, own_rd HO.out (by omega)⟩
end Go.Proofs.YtclpnafiiobfhaaGreatDoor

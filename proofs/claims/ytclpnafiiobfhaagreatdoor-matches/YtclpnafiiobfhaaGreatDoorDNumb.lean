import Derived.Test.YtclpnafiiobfhaaGreatDoorCBase
import Derived.Test.YtclpnafiiobfhaaGreatDoorCParts
namespace Go.Proofs.YtclpnafiiobfhaaGreatDoor
open Go.RowKit
set_option linter.unusedVariables false
set_option linter.unusedSimpArgs false

set_option maxRecDepth 100000 in
set_option maxHeartbeats 3200000 in
theorem dsplit_any (s : ByteArray) (c : UInt8) (w : World) (hs : s.size ≤ 2000) :
    Calls Tryz.prog 40 #[.string s, .int .u8 (c.toNat : Int)] w fun e w' => ∃ v, e = .returned v ∧ w'.ownsRow w.heap.size 9 1 v (cutB c s).length ((cutB c s).map Value.string) ∧ Below w.heap.size w w' := by
  obtain ⟨i0, hi0, hz0, hz1, hz2⟩ := info_parts' Tryz.infoStr
  have hsz : (s.size : Int) ≤ 2000 := by omega
  go_enter Tryz.func40, Tryz.ntmps40
  go_wp2
  go_loopw [5, 6, 7] (fun v a b wr => ∃ (p q : Nat) (done : List ByteArray), b = .int .i64 q ∧ a = .int .i64 p ∧ ((Mid s c p q done ∧ done.length ≤ q) ∨ (q = s.size + 1 ∧ done = cutB c s)) ∧ wr.ownsRow w.heap.size 9 1 v done.length (done.map Value.string) ∧ Below w.heap.size w wr) (fun _ _ b _ => s.size + 1 - (intOf b).toNat)
  case atStart => exact ⟨0, 0, [], rfl, rfl, Or.inl ⟨Mid.start s _, Nat.le_refl _⟩, World.ownsRow_nil _ _ _ _, Below.refl _ _⟩
  case round =>
    obtain ⟨p, q, done, rfl, rfl, hM, hO, hB⟩ := hrel
    have HO : Hid (wr.ownsRow w.heap.size 9 1 u5 done.length (done.map Value.string)) := hO
    have HB : Hid (Below w.heap.size w wr) := hB
    clear hO hB
    rcases hM with ⟨hM, hdl⟩ | ⟨hq, hd⟩
    · have hle := hM.le
      have htop := hM.top
      have HM : Hid (Mid s c p q done) := hM
      clear hM
      have hpq : (p : Int) ≤ (q : Int) := by omega
      have hqs : (q : Int) ≤ (s.size : Int) := by omega
      have HAP : Hid (∀ (gg cap' : Nat) (w1 : World), w1.ownsRow w.heap.size 9 1 (.slice (some ⟨gg, 0, none⟩) (done.length + 1) cap') (done.length + 1) (done.map Value.string ++ [.string (s.extract p q)]) → w1.ownsRow w.heap.size 9 1 (.slice (some ⟨gg, 0, none⟩) (done.length + 1) cap') (done ++ [s.extract p q]).length ((done ++ [s.extract p q]).map Value.string)) := fun gg cap' w1 h => by
        rw [List.map_append, List.length_append]; exact h
      by_cases hend : q = s.size
      · subst hend
        have HDN : Hid (done ++ [s.extract p s.size] = cutB c s) := HM.out.done.symm
        go_upto_region 7 with fail
        go_wp2_with (at_builtin; refine wpList_append_lies _ rfl _ _ 57 rfl w.heap.size 9 i0 _ 1 16 Tryz.underlying57 hi0 hz0 hz1 hz2 rfl (by decide) u5 done.length (done.map Value.string) rfl (HO.out.alloc _) ⟨wr.heap.size, 0, none⟩ 1 1 [.string (s.extract p s.size)] rfl rfl (one_block wr _ _) (by simp [Value.oneCell']) (by decide) (by unfold maxLen; omega) (by omega) (by have := HB.out.size; simp; omega) (wr.heap.size + 1) (by simp) ?_; intro gg cap' w1 hown1 hgrow hat hlt1)
        have HB1 : Hid (Below w.heap.size w w1) := Below.grown (w := wr.alloc (.cells #[.string (s.extract p s.size)] 9)) (HB.out.alloc HB.out.size _) hgrow (by have := HB.out.size; simp; omega) (own_block HO.out)
        go_roundw
        case rel => exact ⟨s.size + 1, s.size + 1, done ++ [s.extract p s.size], by go_num, by go_num, Or.inr ⟨by omega, HDN.out⟩, HAP.out gg cap' w1 hown1, HB1.out⟩
        case measure => simp [intOf]
      · have hlt : q < s.size := by omega
        have hend' : ((q : Int) == (s.size : Int)) = false := by rw [beq_eq_false_iff_ne]; omega
        have hx := nth_at s q hlt
        have hb8 := nth_bd s q
        have hlt' : (q : Int) < (s.size : Int) := by omega
        by_cases hc : nth s q = (c.toNat : Int)
        · have hc' : (nth s q == (c.toNat : Int)) = true := by rw [hc]; simp
          have HH : Hid (Mid s c (q + 1) (q + 1) (done ++ [s.extract p q])) := HM.out.hit hlt hc
          clear hc
          go_upto_region 7 with fail
          go_wp2_with (at_builtin; refine wpList_append_lies _ rfl _ _ 57 rfl w.heap.size 9 i0 _ 1 16 Tryz.underlying57 hi0 hz0 hz1 hz2 rfl (by decide) u5 done.length (done.map Value.string) rfl (HO.out.alloc _) ⟨wr.heap.size, 0, none⟩ 1 1 [.string (s.extract p q)] rfl rfl (one_block wr _ _) (by simp [Value.oneCell']) (by decide) (by unfold maxLen; omega) (by omega) (by have := HB.out.size; simp; omega) (wr.heap.size + 1) (by simp) ?_; intro gg cap' w1 hown1 hgrow hat hlt1)
          have HB1 : Hid (Below w.heap.size w w1) := Below.grown (w := wr.alloc (.cells #[.string (s.extract p q)] 9)) (HB.out.alloc HB.out.size _) hgrow (by have := HB.out.size; simp; omega) (own_block HO.out)
          go_roundw
          case rel => exact ⟨q + 1, q + 1, done ++ [s.extract p q], by go_num, by go_num, Or.inl ⟨HH.out, by simp; omega⟩, HAP.out gg cap' w1 hown1, HB1.out⟩
          case measure => simp [intOf]; omega
        · have hc' : (nth s q == (c.toNat : Int)) = false := by rw [beq_eq_false_iff_ne]; exact hc
          have HH : Hid (Mid s c p (q + 1) done) := HM.out.skip hlt hc
          clear hc
          go_wp2_with fail
          go_roundw
          case rel => exact ⟨p, q + 1, done, by go_num, rfl, Or.inl ⟨HH.out, by omega⟩, HO.out, HB.out⟩
          case measure => simp [intOf]; omega
    · have hgt : (s.size : Int) < (q : Int) := by omega
      have HD : Hid (done = cutB c s) := hd
      clear hd
      go_wp2_with fail
      go_ret
      have := HO.out
      rw [HD.out] at this
      exact ⟨_, rfl, this, HB.out⟩

set_option maxRecDepth 100000 in
set_option maxHeartbeats 3200000 in
theorem dlines_any (s : ByteArray) (w : World) (hs : s.size ≤ 2000) :
    Calls Tryz.prog 20 #[.string s] w fun e w' => ∃ v, e = .returned v ∧ w'.ownsRow w.heap.size 9 1 v (cutB 10 s).length ((cutB 10 s).map Value.string) ∧ Below w.heap.size w w' := by
  obtain ⟨i0, hi0, hz0, hz1, hz2⟩ := info_parts' Tryz.infoStr
  have hsz : (s.size : Int) ≤ 2000 := by omega
  go_enter Tryz.func20, Tryz.ntmps20
  go_wp2
  go_loopw [3, 4, 5] (fun v a b wr => ∃ (p q : Nat) (done : List ByteArray), b = .int .i64 q ∧ a = .int .i64 p ∧ ((Mid s 10 p q done ∧ done.length ≤ q) ∨ (q = s.size + 1 ∧ done = cutB 10 s)) ∧ wr.ownsRow w.heap.size 9 1 v done.length (done.map Value.string) ∧ Below w.heap.size w wr) (fun _ _ b _ => s.size + 1 - (intOf b).toNat)
  case atStart => exact ⟨0, 0, [], rfl, rfl, Or.inl ⟨Mid.start s _, Nat.le_refl _⟩, World.ownsRow_nil _ _ _ _, Below.refl _ _⟩
  case round =>
    obtain ⟨p, q, done, rfl, rfl, hM, hO, hB⟩ := hrel
    have HO : Hid (wr.ownsRow w.heap.size 9 1 u3 done.length (done.map Value.string)) := hO
    have HB : Hid (Below w.heap.size w wr) := hB
    clear hO hB
    rcases hM with ⟨hM, hdl⟩ | ⟨hq, hd⟩
    · have hle := hM.le
      have htop := hM.top
      have HM : Hid (Mid s 10 p q done) := hM
      clear hM
      have hpq : (p : Int) ≤ (q : Int) := by omega
      have hqs : (q : Int) ≤ (s.size : Int) := by omega
      have HAP : Hid (∀ (gg cap' : Nat) (w1 : World), w1.ownsRow w.heap.size 9 1 (.slice (some ⟨gg, 0, none⟩) (done.length + 1) cap') (done.length + 1) (done.map Value.string ++ [.string (s.extract p q)]) → w1.ownsRow w.heap.size 9 1 (.slice (some ⟨gg, 0, none⟩) (done.length + 1) cap') (done ++ [s.extract p q]).length ((done ++ [s.extract p q]).map Value.string)) := fun gg cap' w1 h => by
        rw [List.map_append, List.length_append]; exact h
      by_cases hend : q = s.size
      · subst hend
        have HDN : Hid (done ++ [s.extract p s.size] = cutB 10 s) := HM.out.done.symm
        go_upto_region 7 with fail
        go_wp2_with (at_builtin; refine wpList_append_lies _ rfl _ _ 57 rfl w.heap.size 9 i0 _ 1 16 Tryz.underlying57 hi0 hz0 hz1 hz2 rfl (by decide) u3 done.length (done.map Value.string) rfl (HO.out.alloc _) ⟨wr.heap.size, 0, none⟩ 1 1 [.string (s.extract p s.size)] rfl rfl (one_block wr _ _) (by simp [Value.oneCell']) (by decide) (by unfold maxLen; omega) (by omega) (by have := HB.out.size; simp; omega) (wr.heap.size + 1) (by simp) ?_; intro gg cap' w1 hown1 hgrow hat hlt1)
        have HB1 : Hid (Below w.heap.size w w1) := Below.grown (w := wr.alloc (.cells #[.string (s.extract p s.size)] 9)) (HB.out.alloc HB.out.size _) hgrow (by have := HB.out.size; simp; omega) (own_block HO.out)
        go_roundw
        case rel => exact ⟨s.size + 1, s.size + 1, done ++ [s.extract p s.size], by go_num, by go_num, Or.inr ⟨by omega, HDN.out⟩, HAP.out gg cap' w1 hown1, HB1.out⟩
        case measure => simp [intOf]
      · have hlt : q < s.size := by omega
        have hend' : ((q : Int) == (s.size : Int)) = false := by rw [beq_eq_false_iff_ne]; omega
        have hx := nth_at s q hlt
        have hb8 := nth_bd s q
        have hlt' : (q : Int) < (s.size : Int) := by omega
        by_cases hc : nth s q = 10
        · have hc' : (nth s q == 10) = true := by rw [hc]; simp
          have HH : Hid (Mid s 10 (q + 1) (q + 1) (done ++ [s.extract p q])) := HM.out.hit hlt hc
          clear hc
          go_upto_region 7 with fail
          go_wp2_with (at_builtin; refine wpList_append_lies _ rfl _ _ 57 rfl w.heap.size 9 i0 _ 1 16 Tryz.underlying57 hi0 hz0 hz1 hz2 rfl (by decide) u3 done.length (done.map Value.string) rfl (HO.out.alloc _) ⟨wr.heap.size, 0, none⟩ 1 1 [.string (s.extract p q)] rfl rfl (one_block wr _ _) (by simp [Value.oneCell']) (by decide) (by unfold maxLen; omega) (by omega) (by have := HB.out.size; simp; omega) (wr.heap.size + 1) (by simp) ?_; intro gg cap' w1 hown1 hgrow hat hlt1)
          have HB1 : Hid (Below w.heap.size w w1) := Below.grown (w := wr.alloc (.cells #[.string (s.extract p q)] 9)) (HB.out.alloc HB.out.size _) hgrow (by have := HB.out.size; simp; omega) (own_block HO.out)
          go_roundw
          case rel => exact ⟨q + 1, q + 1, done ++ [s.extract p q], by go_num, by go_num, Or.inl ⟨HH.out, by simp; omega⟩, HAP.out gg cap' w1 hown1, HB1.out⟩
          case measure => simp [intOf]; omega
        · have hc' : (nth s q == 10) = false := by rw [beq_eq_false_iff_ne]; exact hc
          have HH : Hid (Mid s 10 p (q + 1) done) := HM.out.skip hlt hc
          clear hc
          go_wp2_with fail
          go_roundw
          case rel => exact ⟨p, q + 1, done, by go_num, rfl, Or.inl ⟨HH.out, by omega⟩, HO.out, HB.out⟩
          case measure => simp [intOf]; omega
    · have hgt : (s.size : Int) < (q : Int) := by omega
      have HD : Hid (done = cutB 10 s) := hd
      clear hd
      go_wp2_with fail
      go_ret
      have := HO.out
      rw [HD.out] at this
      exact ⟨_, rfl, this, HB.out⟩

set_option maxHeartbeats 1000000 in
theorem place_any (ws : List ByteArray) (b off cap : Nat) (x : ByteArray) (w : World) (hn : ws.length ≤ 100) (hc : Strs w b off ws) :
    Calls Tryz.prog 22 #[.slice (some ⟨b, off, none⟩) ws.length cap, .string x] w fun e w' => e = .returned (.int .i64 (plc ws x)) ∧ w' = w := by
  go_enter Tryz.func22, Tryz.ntmps22
  go_wp2
  go_loop [5] (fun i => ∃ k : Nat, k ≤ ws.length ∧ i = .int .i64 k ∧ ∀ j, j < k → ws.getD j ByteArray.empty ≠ x) (fun i => ws.length - (intOf i).toNat)
  case atStart => exact ⟨0, Nat.zero_le _, rfl, fun j hj => absurd hj (Nat.not_lt_zero _)⟩
  case round =>
    obtain ⟨k, hk, rfl, hp⟩ := hrel
    by_cases hlt : k < ws.length
    · have c := hc k hlt
      obtain ⟨y, hy⟩ : ∃ y, ws.getD k ByteArray.empty = y := ⟨_, rfl⟩
      rw [hy] at c
      have HY : Hid (ws.getD k ByteArray.empty = y) := hy
      by_cases e : ws.getD k ByteArray.empty = x
      · have e' : (y.toList == x.toList) = true := by rw [Lib.bytes_beq_iff, ← hy, e]
        have HI : Hid (plc ws x = (k : Int)) := by
          show Lib.idxFromS ws x 0 = _
          rw [Lib.idxFromS_hit x ws k 0 hlt e hp, Nat.zero_add]
        clear hp e hy
        go_wp2
        go_ret
        rw [HI.out]
        exact ⟨rfl, rfl⟩
      · have e' : (y.toList == x.toList) = false := by rw [Lib.bytes_beq_false_iff, ← hy]; exact e
        have HP : Hid (∀ j, j < k → ws.getD j ByteArray.empty ≠ x) := hp
        have HE : Hid (¬ ws.getD k ByteArray.empty = x) := e
        clear hp e hy
        go_wp2
        go_round
        case rel =>
          refine ⟨k + 1, by omega, by go_num, fun j hj => ?_⟩
          by_cases q : j = k
          · subst q; exact HE.out
          · exact HP.out j (by omega)
        case measure => simp [intOf]; omega
    · have e : k = ws.length := by omega
      subst e
      have HI : Hid (plc ws x = -1) := Lib.idxFromS_miss x ws 0 hp
      clear hp
      go_wp2
      go_ret
      rw [HI.out]
      exact ⟨rfl, rfl⟩
end Go.Proofs.YtclpnafiiobfhaaGreatDoor
namespace Go.Proofs.YtclpnafiiobfhaaGreatDoor
open Go.RowKit
set_option linter.unusedVariables false
set_option linter.unusedSimpArgs false

theorem own_strs' {w : World} {B g c : Nat} {ps : List ByteArray} (h : w.ownsRow B 9 1 (.slice (some ⟨g, 0, none⟩) ps.length c) ps.length (ps.map Value.string)) : Strs w g 0 ps := fun j hj => by
  rw [Nat.zero_add, h.cellAt j (by omega), List.getElem?_map, List.getElem?_eq_getElem hj, List.getD_eq_getElem?_getD, List.getElem?_eq_getElem hj]; rfl
/-- the number so far, one above the top at most -/
def capN (s : ByteArray) (i t : Nat) : Nat := min (valTo s i) (t + 1)
theorem capN_succ (s : ByteArray) (i t : Nat) (h : i < s.size) (h0 : 48 ≤ nth s i) (h1 : nth s i ≤ 57) : ((capN s (i + 1) t : Nat) : Int) = min (10 * (capN s i t : Int) + (nth s i - 48)) ((t : Int) + 1) := by
  have := valTo_succ s i h
  unfold capN
  omega
theorem capN_le (s : ByteArray) (i t : Nat) : (capN s i t : Int) ≤ (t : Int) + 1 := by unfold capN; omega

set_option maxHeartbeats 1600000 in
theorem dnumber_fine (s : ByteArray) (t : Nat) (w : World) (hs : s.size ≤ 2000) (ht : t ≤ 100000) (h0 : s.size ≠ 0) (hd : Digs s s.size) :
    Calls Tryz.prog 72 #[.string s, .int .i64 (t : Int)] w fun e w' => e = .returned (.tuple #[.int .i64 ((capN s s.size t : Nat) : Int), .int .i64 0]) ∧ w' = w := by
  have he := toL_full s h0
  have ht' : (t : Int) ≤ 100000 := by omega
  go_enter Tryz.func72, Tryz.ntmps72
  go_wp2
  go_loop [6, 7] (fun v i => ∃ j : Nat, j ≤ s.size ∧ i = .int .i64 j ∧ v = .int .i64 ((capN s j t : Nat) : Int)) (fun _ i => s.size - (intOf i).toNat)
  case atStart => exact ⟨0, Nat.zero_le _, rfl, by unfold capN; rw [valTo_zero]; simp⟩
  case round =>
    obtain ⟨j, hj, rfl, rfl⟩ := hrel
    by_cases hlt : j < s.size
    · have hx := nth_at s j hlt
      have hb := hd j hlt
      have h48 : 48 ≤ nth s j := hb.1
      have h57 : nth s j ≤ 57 := hb.2
      have hc := capN_le s j t
      have hn := capN_succ s j t hlt h48 h57
      have HN : Hid (((capN s (j + 1) t : Nat) : Int) = min (10 * (capN s j t : Int) + (nth s j - 48)) ((t : Int) + 1)) := hn
      clear hn
      by_cases hgt : (t : Int) < 10 * (capN s j t : Int) + (nth s j - 48)
      · go_wp2
        go_round
        case rel => exact ⟨j + 1, by omega, by go_num, by rw [HN.out]; congr 1; omega⟩
        case measure => simp [intOf]; omega
      · have hgt' : 10 * (capN s j t : Int) + (nth s j - 48) ≤ (t : Int) := by omega
        clear hgt
        go_wp2
        go_round
        case rel => exact ⟨j + 1, by omega, by go_num, by rw [HN.out]; congr 1; omega⟩
        case measure => simp [intOf]; omega
    · have e : j = s.size := by omega
      subst e
      go_wp2
      go_ret2
      exact ⟨rfl, rfl⟩
set_option maxHeartbeats 1600000 in
theorem dnumber_bad (s : ByteArray) (t i : Nat) (w : World) (hs : s.size ≤ 2000) (ht : t ≤ 100000) (hi : i < s.size) (hd : Digs s i) (hn : ¬ (48 ≤ nth s i ∧ nth s i ≤ 57)) :
    Calls Tryz.prog 72 #[.string s, .int .i64 (t : Int)] w fun e w' => e = .returned (.tuple #[.int .i64 0, .int .i64 3]) ∧ w' = w := by
  have ht' : (t : Int) ≤ 100000 := by omega
  have HN : Hid (¬ (48 ≤ nth s i ∧ nth s i ≤ 57)) := hn
  clear hn
  go_enter Tryz.func72, Tryz.ntmps72
  go_wp2
  go_loop [6, 7] (fun v k => ∃ j : Nat, j ≤ i ∧ k = .int .i64 j ∧ v = .int .i64 ((capN s j t : Nat) : Int)) (fun _ k => s.size - (intOf k).toNat)
  case atStart => exact ⟨0, Nat.zero_le _, rfl, by unfold capN; rw [valTo_zero]; simp⟩
  case round =>
    obtain ⟨j, hj, rfl, rfl⟩ := hrel
    have hlt' : j < s.size := by omega
    have hx := nth_at s j hlt'
    have hb8 := nth_bd s j
    by_cases hlt : j < i
    · have hb := hd j hlt
      have h48 : 48 ≤ nth s j := hb.1
      have h57 : nth s j ≤ 57 := hb.2
      have hc := capN_le s j t
      have hn := capN_succ s j t hlt' h48 h57
      have HN : Hid (((capN s (j + 1) t : Nat) : Int) = min (10 * (capN s j t : Int) + (nth s j - 48)) ((t : Int) + 1)) := hn
      clear hn
      by_cases hgt : (t : Int) < 10 * (capN s j t : Int) + (nth s j - 48)
      · go_wp2
        go_round
        case rel => exact ⟨j + 1, by omega, by go_num, by rw [HN.out]; congr 1; omega⟩
        case measure => simp [intOf]; omega
      · have hgt' : 10 * (capN s j t : Int) + (nth s j - 48) ≤ (t : Int) := by omega
        clear hgt
        go_wp2
        go_round
        case rel => exact ⟨j + 1, by omega, by go_num, by rw [HN.out]; congr 1; omega⟩
        case measure => simp [intOf]; omega
    · have e : j = i := by omega
      subst e
      by_cases h48 : nth s j < 48
      · go_wp2
        go_ret2
        exact ⟨rfl, rfl⟩
      · have h57 : 57 < nth s j := by have := HN.out; omega
        have h48' : 48 ≤ nth s j := by omega
        clear h48
        go_wp2
        go_ret2
        exact ⟨rfl, rfl⟩
set_option maxHeartbeats 1600000 in
theorem dnumber_empty (s : ByteArray) (t : Nat) (w : World) (hs : s.size = 0) (ht : t ≤ 100000) :
    Calls Tryz.prog 72 #[.string s, .int .i64 (t : Int)] w fun e w' => e = .returned (.tuple #[.int .i64 0, .int .i64 3]) ∧ w' = w := by
  have he := toL_empty s hs
  go_enter Tryz.func72, Tryz.ntmps72
  go_wp2
  go_loop [6, 7] (fun v k => k = .int .i64 0) (fun _ k => 0)
  case atStart => rfl
  case round =>
    subst hrel
    have hz : (s.size : Int) = 0 := by omega
    go_wp2
    go_ret2
    exact ⟨rfl, rfl⟩
theorem dnumber_some (s : ByteArray) (t v : Nat) (w : World) (hs : s.size ≤ 2000) (ht : t ≤ 100000) (h : numOf s = some v) :
    Calls Tryz.prog 72 #[.string s, .int .i64 (t : Int)] w fun e w' => e = .returned (.tuple #[.int .i64 ((min v (t + 1) : Nat) : Int), .int .i64 0]) ∧ w' = w := by
  rcases numOf_cases s with ⟨h0, hd, hv⟩ | ⟨hv, _⟩
  · rw [hv] at h
    injection h with h
    subst h
    exact dnumber_fine s t w hs ht h0 hd
  · rw [hv] at h; cases h
theorem dnumber_none (s : ByteArray) (t : Nat) (w : World) (hs : s.size ≤ 2000) (ht : t ≤ 100000) (h : numOf s = none) :
    Calls Tryz.prog 72 #[.string s, .int .i64 (t : Int)] w fun e w' => e = .returned (.tuple #[.int .i64 0, .int .i64 3]) ∧ w' = w := by
  rcases numOf_cases s with ⟨h0, hd, hv⟩ | ⟨_, h0 | ⟨i, h1, h2, h3⟩⟩
  · rw [hv] at h; cases h
  · exact dnumber_empty s t w h0 ht
  · exact dnumber_bad s t i w hs ht h1 h2 h3

set_option maxRecDepth 100000 in
set_option maxHeartbeats 3200000 in
theorem dpieces_any (s : ByteArray) (w : World) (hs : s.size ≤ 2000) :
    Calls Tryz.prog 21 #[.string s] w fun e w' => ∃ v, e = .returned v ∧ w'.ownsRow w.heap.size 9 1 v (pieces s).length ((pieces s).map Value.string) ∧ Below w.heap.size w w' := by
  obtain ⟨i0, hi0, hz0, hz1, hz2⟩ := info_parts' Tryz.infoStr
  have HC : Hid (Calls _ _ _ w _) := dsplit_any s 32 w hs
  have hcl := cutB_len 32 s
  have hcp := cutB_pos 32 s
  obtain ⟨cs, hcs⟩ : ∃ cs, cutB 32 s = cs := ⟨_, rfl⟩
  rw [hcs] at HC hcl hcp
  have HV : Hid (pieces s = cs.filter fun p => p.size != 0) := pieces_eq s cs hcs
  clear hcs
  go_enter Tryz.func21, Tryz.ntmps21
  go_wp2_with (go_at_call 40; refine HC.out.mono ?_; rintro e w1 ⟨v, rfl, hO1, hb1⟩; obtain ⟨g, cap, rfl, hgB, hgl⟩ := hO1.form hcp; have HO1 : Hid (w1.ownsRow w.heap.size 9 1 (.slice (some ⟨g, 0, none⟩) cs.length cap) cs.length (cs.map Value.string)) := hO1; have HB1 : Hid (Below w.heap.size w w1) := hb1; clear hO1 hb1)
  go_loopw [4, 5] (fun v i wr => ∃ (j : Nat) (q : List ByteArray), j ≤ cs.length ∧ i = .int .i64 j ∧ q = (cs.take j).filter (fun p => p.size != 0) ∧ q.length ≤ j ∧ wr.ownsRow w1.heap.size 9 1 v q.length (q.map Value.string) ∧ Below w1.heap.size w1 wr) (fun _ i _ => cs.length - (intOf i).toNat)
  case atStart => exact ⟨0, [], Nat.zero_le _, rfl, by simp, by simp, World.ownsRow_nil _ _ _ _, Below.refl _ _⟩
  case round =>
    obtain ⟨j, q, hj, rfl, hq, hql, hO, hB⟩ := hrel
    have HQ : Hid (q = (cs.take j).filter (fun p => p.size != 0)) := hq
    have HO : Hid (wr.ownsRow w1.heap.size 9 1 u4 q.length (q.map Value.string)) := hO
    have HB : Hid (Below w1.heap.size w1 wr) := hB
    have hz : w1.heap.size ≤ wr.heap.size := hB.size
    clear hq hO hB
    by_cases hlt : j < cs.length
    · have c : wr.cell? ⟨g, j, none⟩ = some (.string (cs.getD j ByteArray.empty)) := by
        rw [HB.out.cell (p := ⟨g, j, none⟩) hgl]
        have := own_strs' HO1.out j hlt
        rw [Nat.zero_add] at this
        exact this
      obtain ⟨p, hp⟩ : ∃ p, cs.getD j ByteArray.empty = p := ⟨_, rfl⟩
      rw [hp] at c
      have htk : cs.take (j + 1) = cs.take j ++ [p] := by
        rw [List.take_add_one, ← hp, List.getD_eq_getElem?_getD, List.getElem?_eq_getElem hlt]; rfl
      have HTK : Hid (cs.take (j + 1) = cs.take j ++ [p]) := htk
      have hgr : g < wr.heap.size := by omega
      clear hp htk
      by_cases h0 : p.size = 0
      · have he := toL_empty p h0
        have HQ' : Hid (q = (cs.take (j + 1)).filter (fun p => p.size != 0)) := show q = _ by
          rw [HTK.out, List.filter_append, ← HQ.out]; simp [h0]
        go_wp2_with fail
        go_roundw
        case rel => exact ⟨j + 1, q, by omega, by go_num, HQ'.out, by omega, HO.out, HB.out⟩
        case measure => simp [intOf]; omega
      · have he := toL_full p h0
        have HQ' : Hid (q ++ [p] = (cs.take (j + 1)).filter (fun p => p.size != 0)) := show q ++ [p] = _ by
          rw [HTK.out, List.filter_append, ← HQ.out]; simp [h0]
        go_upto_region 7 with fail
        go_wp2_with (at_builtin; refine wpList_append_lies _ rfl _ _ 57 rfl w1.heap.size 9 i0 _ 1 16 Tryz.underlying57 hi0 hz0 hz1 hz2 rfl (by decide) u4 q.length (q.map Value.string) rfl (HO.out.alloc _) ⟨wr.heap.size, 0, none⟩ 1 1 [.string p] rfl rfl (one_block wr _ _) (by simp [Value.oneCell']) (by decide) (by unfold maxLen; omega) (by omega) (by simp; omega) (wr.heap.size + 1) (by simp) ?_; intro gg cap' w2 hown1 hgrow hat hlt1)
        have HO1' : Hid (w2.ownsRow w1.heap.size 9 1 (.slice (some ⟨gg, 0, none⟩) (q.length + 1) cap') (q ++ [p]).length ((q ++ [p]).map Value.string)) := show World.ownsRow _ _ _ _ _ _ _ by
          rw [List.map_append, List.length_append]; exact hown1
        have HB1' : Hid (Below w1.heap.size w1 w2) := Below.grown (w := wr.alloc (.cells #[.string p] 9)) (HB.out.alloc hz _) hgrow (by simp; omega) (own_block HO.out)
        clear hown1 hgrow hat hlt1
        go_wp2_with fail
        go_roundw
        case rel => exact ⟨j + 1, q ++ [p], by omega, by go_num, HQ'.out, by simp; omega, HO1'.out, HB1'.out⟩
        case measure => simp [intOf]; omega
    · have e : j = cs.length := by omega
      subst e
      go_wp2_with fail
      go_ret
      rw [HV.out]
      have e : q = cs.filter fun p => p.size != 0 := by rw [HQ.out, List.take_length]
      rw [← e]
      exact ⟨_, rfl, own_mono HO.out HB1.out.size, HB1.out.trans (HB.out.mono HB1.out.size)⟩
end Go.Proofs.YtclpnafiiobfhaaGreatDoor
namespace Go.Proofs.YtclpnafiiobfhaaGreatDoor
open Go.RowKit
set_option linter.unusedVariables false
set_option linter.unusedSimpArgs false

theorem Tryz.infoI64 : (Tryz.prog.info? 3).map (fun i => (i.zero, i.size, i.bytes)) = some (some (.int .i64 0), 1, 8) := by kernel_rfl
/-- a number as the document reads it -/
def capI (t v : Nat) : Value := .int .i64 ((min v (t + 1) : Nat) : Int)
set_option maxHeartbeats 1600000 in
theorem dnumbers_len (s : ByteArray) (c : UInt8) (lo hi t : Nat) (w : World) (hs : s.size ≤ 2000) (hlo : lo ≤ 100) (hhi : hi ≤ 100) (h : (cutB c s).length < lo ∨ hi < (cutB c s).length) :
    Calls Tryz.prog 76 #[.string s, .int .u8 (c.toNat : Int), .int .i64 (lo : Int), .int .i64 (hi : Int), .int .i64 (t : Int)] w fun e w' => e = .returned (.tuple #[.slice none 0 0, .int .i64 3]) ∧ Below w.heap.size w w' := by
  have HC : Hid (Calls _ _ _ w _) := dsplit_any s c w hs
  have hcp := cutB_pos c s
  have hcl := cutB_len c s
  obtain ⟨cs, hcs⟩ : ∃ cs, cutB c s = cs := ⟨_, rfl⟩
  rw [hcs] at HC hcp hcl h
  clear hcs
  by_cases h1 : cs.length < lo
  · have h1' : (cs.length : Int) < (lo : Int) := by omega
    clear h h1
    go_enter Tryz.func76, Tryz.ntmps76
    go_wp2_with (go_at_call 40; refine HC.out.mono ?_; rintro e w1 ⟨v, rfl, hO1, hb1⟩; obtain ⟨g, cap, rfl, hgB, hgl⟩ := hO1.form hcp)
    go_ret2
    exact ⟨rfl, hb1⟩
  · have h1' : (lo : Int) ≤ (cs.length : Int) := by omega
    have h2' : (hi : Int) < (cs.length : Int) := by omega
    clear h h1
    go_enter Tryz.func76, Tryz.ntmps76
    go_wp2_with (go_at_call 40; refine HC.out.mono ?_; rintro e w1 ⟨v, rfl, hO1, hb1⟩; obtain ⟨g, cap, rfl, hgB, hgl⟩ := hO1.form hcp)
    go_ret2
    exact ⟨rfl, hb1⟩
set_option maxRecDepth 100000 in
set_option maxHeartbeats 3200000 in
theorem dnumbers_any (s : ByteArray) (c : UInt8) (lo hi t : Nat) (w : World) (hs : s.size ≤ 2000) (hlo : lo ≤ 100) (hhi : hi ≤ 100) (ht : t ≤ 100000) (h1 : lo ≤ (cutB c s).length) (h2 : (cutB c s).length ≤ hi) :
    Calls Tryz.prog 76 #[.string s, .int .u8 (c.toNat : Int), .int .i64 (lo : Int), .int .i64 (hi : Int), .int .i64 (t : Int)] w fun e w' =>
      (∀ q, nums (cutB c s) = some q → ∃ v, e = .returned (.tuple #[v, .int .i64 0]) ∧ w'.ownsRow w.heap.size 3 1 v (cutB c s).length (q.map (capI t))) ∧ (nums (cutB c s) = none → e = .returned (.tuple #[.slice none 0 0, .int .i64 3])) ∧ Below w.heap.size w w' := by
  obtain ⟨i0, hi0, hz0, hz1, hz2⟩ := info_parts' Tryz.infoI64
  have HC : Hid (Calls _ _ _ w _) := dsplit_any s c w hs
  have hcp := cutB_pos c s
  have hcl := cutB_len c s
  have hps : ∀ p ∈ cutB c s, p.size ≤ 2000 := fun p hp => Nat.le_trans (cutB_mem c s p hp) hs
  obtain ⟨ps, hcs⟩ : ∃ cs, cutB c s = cs := ⟨_, rfl⟩
  rw [hcs] at HC hcp hcl h1 h2 hps
  rw [hcs]
  have HP : Hid (∀ p ∈ ps, p.size ≤ 2000) := hps
  have h1' : decide ((ps.length : Int) < (lo : Int)) = false := by simp; omega
  have h2' : decide ((hi : Int) < (ps.length : Int)) = false := by simp; omega
  have h3' : decide (ps.length < lo) = false := by simp; omega
  have h4' : decide (hi < ps.length) = false := by simp; omega
  have hl100 : ps.length ≤ 100 := by omega
  clear hcs hps h1 h2
  go_enter Tryz.func76, Tryz.ntmps76
  go_wp2_with (go_at_call 40; refine HC.out.mono ?_; rintro e w1 ⟨v, rfl, hO1, hb1⟩; obtain ⟨g, cap, rfl, hgB, hgl⟩ := hO1.form hcp; have HS : Hid (Strs w1 g 0 ps) := own_strs' hO1; have HB1 : Hid (Below w.heap.size w w1) := hb1; clear hO1 hb1)
  go_loopw [13, 14] (fun v i wr => ∃ (j : Nat) (q : List Nat), j ≤ ps.length ∧ i = .int .i64 j ∧ nums ps = (nums (ps.drop j)).map (fun r => q ++ r) ∧ wr.ownsRow w1.heap.size 3 1 v j (q.map (capI t)) ∧ Below w1.heap.size w1 wr) (fun _ i _ => ps.length - (intOf i).toNat)
  case atStart => exact ⟨0, [], Nat.zero_le _, rfl, by simp, World.ownsRow_nil _ _ _ _, Below.refl _ _⟩
  case round =>
    obtain ⟨j, q, hj, rfl, hq, hO, hB⟩ := hrel
    have HQ : Hid (nums ps = (nums (ps.drop j)).map (fun r => q ++ r)) := hq
    have HO : Hid (wr.ownsRow w1.heap.size 3 1 u13 j (q.map (capI t))) := hO
    have HB : Hid (Below w1.heap.size w1 wr) := hB
    have hzz : w1.heap.size ≤ wr.heap.size := hB.size
    clear hq hO hB
    by_cases hlt : j < ps.length
    · have c := HS.out j hlt
      rw [Nat.zero_add, ← HB.out.cell (p := ⟨g, j, none⟩) hgl] at c
      obtain ⟨p, hp⟩ : ∃ p, ps.getD j ByteArray.empty = p := ⟨_, rfl⟩
      rw [hp] at c
      have hd : ps.drop j = p :: ps.drop (j + 1) := by
        rw [List.drop_eq_getElem_cons hlt, ← hp, List.getD_eq_getElem?_getD, List.getElem?_eq_getElem hlt]; rfl
      have hm : p ∈ ps := by
        rw [← hp, List.getD_eq_getElem?_getD, List.getElem?_eq_getElem hlt]
        exact List.getElem_mem hlt
      have hps := HP.out p hm
      have HD : Hid (ps.drop j = p :: ps.drop (j + 1)) := hd
      have hgr : g < wr.heap.size := by omega
      clear hp hd hm
      cases hn : numOf p with
      | none =>
        have HN : Hid (numOf p = none) := hn
        have HCn : Hid (Calls _ _ _ wr _) := dnumber_none p t wr hps ht hn
        clear hn
        go_wp2_with (go_at_call 72; refine HCn.out.mono ?_; rintro e w' ⟨rfl, hw'⟩; obtain rfl : wr = w' := hw'.symm)
        go_ret2
        have hz : nums ps = none := by rw [HQ.out, HD.out, nums_bad _ HN.out]; rfl
        exact ⟨fun q' h' => (by rw [hz] at h'; cases h'), fun _ => rfl, HB1.out.trans (HB.out.mono HB1.out.size)⟩
      | some v =>
        have HN : Hid (numOf p = some v) := hn
        have HCn : Hid (Calls _ _ _ wr _) := dnumber_some p t v wr hps ht hn
        clear hn
        go_upto_region 11 with (go_at_call 72; refine HCn.out.mono ?_; rintro e w' ⟨rfl, hw'⟩; obtain rfl : wr = w' := hw'.symm)
        go_wp2_with (at_builtin; refine wpList_append_lies _ rfl _ _ 107 rfl w1.heap.size 3 i0 _ 1 8 Tryz.underlying107 hi0 hz0 hz1 hz2 rfl (by decide) u13 j (q.map (capI t)) rfl (HO.out.alloc _) ⟨wr.heap.size, 0, none⟩ 1 1 [capI t v] rfl rfl (one_block wr _ _) (by simp [Value.oneCell', capI]) (by decide) (by unfold maxLen; omega) (by omega) (by simp; omega) (wr.heap.size + 1) (by simp) ?_; intro gg cap' w2 hown1 hgrow hat hlt1)
        have HO1 : Hid (w2.ownsRow w1.heap.size 3 1 (.slice (some ⟨gg, 0, none⟩) (j + 1) cap') (j + 1) ((q ++ [v]).map (capI t))) := show World.ownsRow _ _ _ _ _ _ _ by
          rw [List.map_append]; exact hown1
        have HB2 : Hid (Below w1.heap.size w1 w2) := Below.grown (w := wr.alloc (.cells #[capI t v] 3)) (HB.out.alloc hzz _) hgrow (by simp; omega) (own_block HO.out)
        clear hown1 hgrow hat hlt1
        go_wp2_with fail
        go_roundw
        case rel => exact ⟨j + 1, q ++ [v], by omega, by go_num, nums_go HQ.out HD.out HN.out, HO1.out, HB2.out⟩
        case measure => simp [intOf]; omega
    · have e : j = ps.length := by omega
      subst e
      go_wp2_with fail
      go_ret2
      have hz : nums ps = some q := by rw [HQ.out, List.drop_length]; simp [nums]
      refine ⟨fun q' h' => ⟨_, rfl, ?_⟩, fun h' => (by rw [hz] at h'; cases h'), HB1.out.trans (HB.out.mono HB1.out.size)⟩
      rw [hz] at h'
      injection h' with h'
      rw [← h']; exact own_mono HO.out HB1.out.size
end Go.Proofs.YtclpnafiiobfhaaGreatDoor

import Derived.Test.YtclpnafiiobfhabGreatDoorProg
import Derived.Test.YtclpnafiiobfhabGreatDoorRText
import Derived.Test.YtclpnafiiobfhabGreatDoorBase
import Derived.Deep.RegionHeld3
import Derived.Deep.CutRange
import Derived.Deep.AppendLies
import Derived.StillTactics
import Derived.OwnWalk
import Derived.Laws.OwnMore
import Derived.Test.YtclpnafiiobfhabGreatDoorShelf
namespace Go.Proofs.YtclpnafiiobfhabGreatDoor
open Go.RowKit
set_option linter.unusedVariables false
set_option linter.unusedSimpArgs false

theorem toL_empty (s : ByteArray) (h : s.size = 0) : s.toList.isEmpty = true := by
  rw [ByteArray.toList_eq, List.isEmpty_iff, ← List.length_eq_zero_iff]
  simpa using h
theorem toL_full (s : ByteArray) (h : s.size ≠ 0) : s.toList.isEmpty = false := by
  rw [ByteArray.toList_eq, List.isEmpty_eq_false_iff, Ne, ← List.length_eq_zero_iff]
  simpa using h
/-- the number so far, as far as it is told -/
def capTo (s : ByteArray) (i : Nat) : Nat := min (valTo s i) 65536
theorem capTo_succ (s : ByteArray) (i : Nat) (h : i < s.size) (h0 : 48 ≤ nth s i) (h1 : nth s i ≤ 57) : ((capTo s (i + 1) : Nat) : Int) = min (10 * (capTo s i : Int) + (nth s i - 48)) 65536 := by
  have := valTo_succ s i h
  unfold capTo
  omega
theorem capTo_le (s : ByteArray) (i : Nat) : (capTo s i : Int) ≤ 65536 := by unfold capTo; omega

set_option maxHeartbeats 1600000 in
theorem readNumber_fine (s : ByteArray) (w : World) (hs : s.size ≤ 2000) (h0 : s.size ≠ 0) (hd : Digs s s.size) :
    Calls Tryz.prog 181 #[.string s] w fun e w' => e = .returned (.tuple #[.int .u32 ((capTo s s.size : Nat) : Int), .nilIface]) ∧ w' = w := by
  have he := toL_full s h0
  go_enter Tryz.func181, Tryz.ntmps181
  go_wp2
  go_loop [4, 12] (fun v i => ∃ j : Nat, j ≤ s.size ∧ i = .int .i64 j ∧ v = .int .u32 ((capTo s j : Nat) : Int)) (fun _ i => s.size - (intOf i).toNat)
  case atStart => exact ⟨0, Nat.zero_le _, rfl, rfl⟩
  case round =>
    obtain ⟨j, hj, rfl, rfl⟩ := hrel
    by_cases hlt : j < s.size
    · have hx := nth_at s j hlt
      have hb := hd j hlt
      have h48 : 48 ≤ nth s j := hb.1
      have h57 : nth s j ≤ 57 := hb.2
      have hc := capTo_le s j
      have hn := capTo_succ s j hlt h48 h57
      have HN : Hid (((capTo s (j + 1) : Nat) : Int) = min (10 * (capTo s j : Int) + (nth s j - 48)) 65536) := hn
      clear hn
      go_wp2
      go_round
      case rel => exact ⟨j + 1, by omega, by go_num, by rw [HN.out] <;> congr 1 <;> omega⟩
      case measure => simp [intOf]; omega
    · have e : j = s.size := by omega
      subst e
      go_wp2
      go_ret2
      exact ⟨rfl, rfl⟩

set_option maxHeartbeats 1600000 in
theorem readNumber_bad (s : ByteArray) (i : Nat) (w : World) (hs : s.size ≤ 2000) (hi : i < s.size) (hd : Digs s i) (hn : ¬ (48 ≤ nth s i ∧ nth s i ≤ 57)) :
    Calls Tryz.prog 181 #[.string s] w fun e w' => e = .returned (.tuple #[.int .u32 0, .iface 22 (.int .i64 3)]) ∧ w' = w := by
  have he := toL_full s (by omega)
  have HN : Hid (¬ (48 ≤ nth s i ∧ nth s i ≤ 57)) := hn
  clear hn
  go_enter Tryz.func181, Tryz.ntmps181
  go_wp2
  go_loop [4, 12] (fun v k => ∃ j : Nat, j ≤ i ∧ k = .int .i64 j ∧ v = .int .u32 ((capTo s j : Nat) : Int)) (fun _ k => s.size - (intOf k).toNat)
  case atStart => exact ⟨0, Nat.zero_le _, rfl, rfl⟩
  case round =>
    obtain ⟨j, hj, rfl, rfl⟩ := hrel
    have hlt' : j < s.size := by omega
    have hx := nth_at s j hlt'
    have hb8 := nth_bd s j
    by_cases hlt : j < i
    · have hb := hd j hlt
      have h48 : 48 ≤ nth s j := hb.1
      have h57 : nth s j ≤ 57 := hb.2
      have hc := capTo_le s j
      have hn := capTo_succ s j hlt' h48 h57
      have HN : Hid (((capTo s (j + 1) : Nat) : Int) = min (10 * (capTo s j : Int) + (nth s j - 48)) 65536) := hn
      clear hn
      go_wp2
      go_round
      case rel => exact ⟨j + 1, by omega, by go_num, by rw [HN.out] <;> congr 1 <;> omega⟩
      case measure => simp [intOf]; omega
    · have e : j = i := by omega
      subst e
      by_cases h48 : nth s j < 48
      · go_wp2
        go_ret2
        exact ⟨rfl, rfl⟩
      · have h57 : 57 < nth s j := by have := HN.out; omega
        have h48' : 48 ≤ nth s j := by omega
        clear h48
        go_wp2
        go_ret2
        exact ⟨rfl, rfl⟩
theorem readNumber_empty (s : ByteArray) (w : World) (hs : s.size = 0) :
    Calls Tryz.prog 181 #[.string s] w fun e w' => e = .returned (.tuple #[.int .u32 0, .iface 22 (.int .i64 3)]) ∧ w' = w := by
  have he := toL_empty s hs
  go_enter Tryz.func181, Tryz.ntmps181
  go_wp2
  go_ret2
  exact ⟨rfl, rfl⟩
/-- readNumber, where the piece is a number -/
theorem readNumber_some (s : ByteArray) (v : Nat) (w : World) (hs : s.size ≤ 2000) (h : numOf s = some v) :
    Calls Tryz.prog 181 #[.string s] w fun e w' => e = .returned (.tuple #[.int .u32 ((min v 65536 : Nat) : Int), .nilIface]) ∧ w' = w := by
  rcases numOf_cases s with ⟨h0, hd, hv⟩ | ⟨hv, _⟩
  · rw [hv] at h
    injection h with h
    subst h
    exact readNumber_fine s w hs h0 hd
  · rw [hv] at h; cases h
theorem readNumber_none (s : ByteArray) (w : World) (hs : s.size ≤ 2000) (h : numOf s = none) :
    Calls Tryz.prog 181 #[.string s] w fun e w' => e = .returned (.tuple #[.int .u32 0, .iface 22 (.int .i64 3)]) ∧ w' = w := by
  rcases numOf_cases s with ⟨h0, hd, hv⟩ | ⟨_, h0 | ⟨i, h1, h2, h3⟩⟩
  · rw [hv] at h; cases h
  · exact readNumber_empty s w h0
  · exact readNumber_bad s i w hs h1 h2 h3
end Go.Proofs.YtclpnafiiobfhabGreatDoor
namespace Go.Proofs.YtclpnafiiobfhabGreatDoor
open Go.RowKit
set_option linter.unusedVariables false
set_option linter.unusedSimpArgs false

/-- what the library keeps: how long a needle may be -/
def MaxL (w : World) : Prop := ∃ m, w.cell? ⟨1, 0, none⟩ = some (.int .i64 m)
theorem MaxL.pos {w : World} (h : MaxL w) : 1 < w.heap.size := by
  obtain ⟨m, h⟩ := h
  exact World.block_lt_of_cell? _ _ h
theorem MaxL.below {w w' : World} (h : MaxL w) (hw : Below w.heap.size w w') : MaxL w' := by
  have hp := h.pos
  obtain ⟨m, h⟩ := h
  exact ⟨m, by rw [hw.cell (p := ⟨1, 0, none⟩) hp]; exact h⟩
theorem MaxL.alloc {w : World} (h : MaxL w) (o : Obj) : MaxL (w.alloc o) := h.below ((Below.refl _ _).alloc (Nat.le_refl _) _)

/-- a row of texts -/
def Strs (w : World) (b off : Nat) (ps : List ByteArray) : Prop := ∀ j, j < ps.length → w.cell? ⟨b, off + j, none⟩ = some (.string (ps.getD j ByteArray.empty))
theorem Strs.below {w w' : World} {b off B : Nat} {ps : List ByteArray} (h : Strs w b off ps) (hw : Below B w w') (hb : b < B) : Strs w' b off ps := fun j hj => by
  rw [hw.cell (p := ⟨b, off + j, none⟩) hb]; exact h j hj
theorem Strs.drop {w : World} {b off : Nat} {ps : List ByteArray} (h : Strs w b off ps) (k : Nat) : Strs w b (off + k) (ps.drop k) := fun j hj => by
  rw [List.length_drop] at hj
  rw [Nat.add_assoc, h (k + j) (by omega)]
  simp [List.getD_eq_getElem?_getD]
theorem Strs.made (w : World) (ps : List ByteArray) (t : TypeId) : Strs (w.alloc (.cells (ps.map Value.string).toArray t)) w.heap.size 0 ps := fun j hj => by
  rw [World.cell?_alloc_at _ _ _ _ rfl, Nat.zero_add]
  simp [List.getD_eq_getElem?_getD, List.getElem?_eq_getElem hj]
theorem Strs.mk4 {w : World} {b : Nat} {p q : ByteArray} (h0 : w.cell? ⟨b, 0, none⟩ = some (.string p)) (h1 : w.cell? ⟨b, 1, none⟩ = some (.string q)) : Strs w b 0 [p, q] := fun j hj => by
  rcases j with _ | _ | j
  · exact h0
  · exact h1
  · simp at hj; omega

set_option maxHeartbeats 1000000 in
/-- slices.Index at texts -/
theorem index_any (ws : List ByteArray) (b off cap : Nat) (x : ByteArray) (w : World) (hn : ws.length ≤ 100) (hc : Strs w b off ws) :
    Calls Tryz.prog 149 #[.slice (some ⟨b, off, none⟩) ws.length cap, .string x] w fun e w' => e = .returned (.int .i64 (plc ws x)) ∧ w' = w := by
  go_enter Tryz.func149, Tryz.ntmps149
  go_wp2
  go_loop [8] (fun i => ∃ k : Nat, k ≤ ws.length ∧ i = .int .i64 k ∧ ∀ j, j < k → ws.getD j ByteArray.empty ≠ x) (fun i => ws.length - (intOf i).toNat)
  case atStart => exact ⟨0, Nat.zero_le _, rfl, fun j hj => absurd hj (Nat.not_lt_zero _)⟩
  case round =>
    obtain ⟨k, hk, rfl, hp⟩ := hrel
    by_cases hlt : k < ws.length
    · have c := hc k hlt
      obtain ⟨y, hy⟩ : ∃ y, ws.getD k ByteArray.empty = y := ⟨_, rfl⟩
      rw [hy] at c
      have HY : Hid (ws.getD k ByteArray.empty = y) := hy
      by_cases e : ws.getD k ByteArray.empty = x
      · have e' : (x.toList == y.toList) = true := by rw [Lib.bytes_beq_iff, ← hy, e]
        have HI : Hid (plc ws x = (k : Int)) := by
          show Lib.idxFromS ws x 0 = _
          rw [Lib.idxFromS_hit x ws k 0 hlt e hp, Nat.zero_add]
        clear hp e hy
        go_wp2
        go_ret
        rw [HI.out]
        exact ⟨rfl, rfl⟩
      · have e' : (x.toList == y.toList) = false := by rw [Lib.bytes_beq_false_iff, ← hy]; exact fun q => e q.symm
        have HP : Hid (∀ j, j < k → ws.getD j ByteArray.empty ≠ x) := hp
        have HE : Hid (¬ ws.getD k ByteArray.empty = x) := e
        clear hp e hy
        go_wp2
        go_round
        case rel =>
          refine ⟨k + 1, by omega, by go_num, fun j hj => ?_⟩
          by_cases q : j = k
          · subst q; exact HE.out
          · exact HP.out j (by omega)
        case measure => simp [intOf]; omega
    · have e : k = ws.length := by omega
      subst e
      have HI : Hid (plc ws x = -1) := Lib.idxFromS_miss x ws 0 hp
      clear hp
      go_wp2
      go_ret
      rw [HI.out]
      exact ⟨rfl, rfl⟩

/-- strings.Split at one byte -/
theorem split_any (s : ByteArray) (c : UInt8) (w : World) (hs : s.size ≤ 2000) (hm : MaxL w) :
    Calls Tryz.prog 81 #[.string s, .string ⟨#[c]⟩] w fun e w' => e = .returned (.slice (some ⟨w.heap.size, 0, none⟩) (cutB c s).length (cutB c s).length) ∧ w' = w.alloc (.cells ((cutB c s).map Value.string).toArray 9) := by
  obtain ⟨m, hm⟩ := hm
  refine (Tryz.strings_Split s ⟨#[c]⟩ m w (by omega) hm (by show 1 ≤ (1 : Nat); omega)).mono ?_
  rintro e w' ⟨rfl, rfl⟩
  have h1 : Lib.countB s ⟨#[c]⟩ + 1 = (cutB c s).length := by
    unfold cutB
    rw [List.length_map]
    exact countB_parts c s
  have h2 : Lib.splitB ⟨#[c]⟩ 0 (Lib.countB s ⟨#[c]⟩) s = cutB c s := splitB_parts c s
  rw [h1, h2]
  exact ⟨rfl, rfl⟩
end Go.Proofs.YtclpnafiiobfhabGreatDoor
namespace Go.Proofs.YtclpnafiiobfhabGreatDoor
open Go.RowKit
set_option linter.unusedVariables false
set_option linter.unusedSimpArgs false

theorem info_parts' {P : Program} {e : TypeId} {z : Value} {s b : Nat} (h : (P.info? e).map (fun i => (i.zero, i.size, i.bytes)) = some (some z, s, b)) : ∃ i, P.info? e = some i ∧ i.zero = some z ∧ i.size = s ∧ i.bytes = b := by
  obtain ⟨i, hi, hz⟩ := Option.map_eq_some_iff.1 h
  simp only [Prod.mk.injEq] at hz
  exact ⟨i, hi, hz.1, hz.2.1, hz.2.2⟩
theorem Tryz.infoU32 : (Tryz.prog.info? 25).map (fun i => (i.zero, i.size, i.bytes)) = some (some (.int .u32 0), 1, 4) := by kernel_rfl
theorem Tryz.infoStr : (Tryz.prog.info? 9).map (fun i => (i.zero, i.size, i.bytes)) = some (some (.string ByteArray.empty), 1, 16) := by kernel_rfl
/-- a number as readNumber gives it -/
def capV (v : Nat) : Value := .int .u32 ((min v 65536 : Nat) : Int)
theorem one_block (w : World) (v : Value) (t : TypeId) : ∀ (j : Nat) (u : Value), [v][j]? = some u → (w.alloc (.cells #[v] t)).cell? ((⟨w.heap.size, 0, none⟩ : Addr).add j) = some u :=
  World.news_of_block (cs := #[v]) (t := t) (fr := (0, 0)) (heap_alloc_new w _)
theorem own_block {w : World} {B : Nat} {e : TypeId} {sz : Nat} {v : Value} {n : Nat} {xs : List Value} (h : w.ownsRow B e sz v n xs) : ∀ k, v.ownBlock = some k → B ≤ k := fun k hk => by
  rcases h.2 with ⟨e, _⟩ | ⟨g, cap, cur, e, hg, _⟩
  · subst e; cases hk
  · subst e; cases hk; exact hg

theorem nums_go {ps l r : List ByteArray} {q : List Nat} {p : ByteArray} {v : Nat} (h : nums ps = (nums l).map (fun x => q ++ x)) (e : l = p :: r) (hv : numOf p = some v) : nums ps = (nums r).map (fun x => (q ++ [v]) ++ x) := by
  rw [h, e, nums_fine _ hv, Option.map_map]
  congr 1
  funext x
  show q ++ v :: x = (q ++ [v]) ++ x
  rw [List.append_assoc]; rfl
set_option maxHeartbeats 1600000 in
theorem readNumbers_any (ps : List ByteArray) (b off cap : Nat) (w : World) (hl : ps.length ≤ 3000) (hp : ∀ p ∈ ps, p.size ≤ 2000) (hb : b < w.heap.size) (hS : Strs w b off ps) :
    Calls Tryz.prog 183 #[.slice (some ⟨b, off, none⟩) ps.length cap] w fun e w' =>
      (∀ q, nums ps = some q → ∃ v, e = .returned (.tuple #[v, .nilIface]) ∧ w'.ownsRow w.heap.size 25 1 v ps.length (q.map capV)) ∧ (nums ps = none → e = .returned (.tuple #[.slice none 0 0, .iface 22 (.int .i64 3)])) ∧ Below w.heap.size w w' := by
  obtain ⟨i0, hi0, hz0, hz1, hz2⟩ := info_parts' Tryz.infoU32
  have HS : Hid (Strs w b off ps) := hS
  have HP : Hid (∀ p ∈ ps, p.size ≤ 2000) := hp
  clear hS hp
  go_enter Tryz.func183, Tryz.ntmps183
  go_wp2
  go_loopw [4, 11] (fun v i wr => ∃ (j : Nat) (q : List Nat), j ≤ ps.length ∧ i = .int .i64 j ∧ nums ps = (nums (ps.drop j)).map (fun r => q ++ r) ∧ wr.ownsRow w.heap.size 25 1 v j (q.map capV) ∧ Below w.heap.size w wr) (fun _ i _ => ps.length - (intOf i).toNat)
  case atStart => exact ⟨0, [], Nat.zero_le _, rfl, by simp, World.ownsRow_nil _ _ _ _, Below.refl _ _⟩
  case round =>
    obtain ⟨j, q, hj, rfl, hq, hO, hB⟩ := hrel
    have HQ : Hid (nums ps = (nums (ps.drop j)).map (fun r => q ++ r)) := hq
    have HO : Hid (wr.ownsRow w.heap.size 25 1 u4 j (q.map capV)) := hO
    have HB : Hid (Below w.heap.size w wr) := hB
    clear hq hO hB
    by_cases hlt : j < ps.length
    · have c := HS.out j hlt
      rw [← HB.out.cell (p := ⟨b, off + j, none⟩) hb] at c
      obtain ⟨p, hp⟩ : ∃ p, ps.getD j ByteArray.empty = p := ⟨_, rfl⟩
      rw [hp] at c
      have hd : ps.drop j = p :: ps.drop (j + 1) := by
        rw [List.drop_eq_getElem_cons hlt, ← hp, List.getD_eq_getElem?_getD, List.getElem?_eq_getElem hlt]; rfl
      have hm : p ∈ ps := by
        rw [← hp, List.getD_eq_getElem?_getD, List.getElem?_eq_getElem hlt]
        exact List.getElem_mem hlt
      have hps := HP.out p hm
      have HD : Hid (ps.drop j = p :: ps.drop (j + 1)) := hd
      clear hp hd hm
      cases hn : numOf p with
      | none =>
        have HN : Hid (numOf p = none) := hn
        have HC : Hid (Calls _ _ _ wr _) := readNumber_none p wr hps hn
        clear hn
        go_wp2_with (go_at_call 181; refine HC.out.mono ?_; rintro e w' ⟨rfl, hw'⟩; obtain rfl : wr = w' := hw'.symm)
        go_ret2
        have hz : nums ps = none := by rw [HQ.out, HD.out, nums_bad _ HN.out]; rfl
        exact ⟨fun q' h' => (by rw [hz] at h'; cases h'), fun _ => rfl, HB.out⟩
      | some v =>
        have HN : Hid (numOf p = some v) := hn
        have HC : Hid (Calls _ _ _ wr _) := readNumber_some p v wr hps hn
        clear hn
        go_upto_region 8 with (go_at_call 181; refine HC.out.mono ?_; rintro e w' ⟨rfl, hw'⟩; obtain rfl : wr = w' := hw'.symm)
        go_wp2_with (at_builtin; refine wpList_append_lies _ rfl _ _ 298 rfl w.heap.size 25 i0 _ 1 4 Tryz.underlying298 hi0 hz0 hz1 hz2 rfl (by decide) u4 j (q.map capV) rfl (HO.out.alloc _) ⟨wr.heap.size, 0, none⟩ 1 1 [capV v] rfl rfl (one_block wr _ _) (by simp [Value.oneCell', capV]) (by decide) (by unfold maxLen; omega) (by omega) (by have := HB.out.size; simp; omega) (wr.heap.size + 1) (by simp) ?_; intro gg cap' w1 hown1 hgrow hat hlt1)
        have HO1 : Hid (w1.ownsRow w.heap.size 25 1 (.slice (some ⟨gg, 0, none⟩) (j + 1) cap') (j + 1) ((q ++ [v]).map capV)) := by
          rw [List.map_append]; exact hown1
        have HB1 : Hid (Below w.heap.size w w1) := Below.grown (w := wr.alloc (.cells #[capV v] 25)) (HB.out.alloc HB.out.size _) hgrow (by have := HB.out.size; simp; omega) (own_block HO.out)
        clear hown1 hgrow hat hlt1
        go_wp2_with fail
        go_roundw
        case rel => exact ⟨j + 1, q ++ [v], by omega, by go_num, nums_go HQ.out HD.out HN.out, HO1.out, HB1.out⟩
        case measure => simp [intOf]; omega
    · have e : j = ps.length := by omega
      subst e
      go_wp2_with fail
      go_ret2
      have hz : nums ps = some q := by rw [HQ.out, List.drop_length]; simp [nums]
      refine ⟨fun q' h' => ⟨_, rfl, ?_⟩, fun h' => (by rw [hz] at h'; cases h'), HB.out⟩
      rw [hz] at h'
      injection h' with h'
      rw [← h']; exact HO.out
end Go.Proofs.YtclpnafiiobfhabGreatDoor
namespace Go.Proofs.YtclpnafiiobfhabGreatDoor
open Go.RowKit
set_option linter.unusedVariables false
set_option linter.unusedSimpArgs false

/-- what a reader of a piece gives: its value, or an error that is the kind alone -/
def Gives (r : Nat × List Nat) (f : List Nat → Value) (e : Ending) : Prop :=
  (r.1 = 0 → e = .returned (.tuple #[f r.2, .nilIface])) ∧ (r.1 ≠ 0 → ∃ v, e = .returned (.tuple #[v, .iface 22 (.int .i64 (r.1 : Int))]))
theorem Gives.fine {r : Nat × List Nat} {f : List Nat → Value} {v : List Nat} {e : Ending} (hr : r = (0, v)) (he : e = .returned (.tuple #[f v, .nilIface])) : Gives r f e := by
  subst hr
  exact ⟨fun _ => he, fun h => absurd rfl h⟩
theorem Gives.bad {r : Nat × List Nat} {f : List Nat → Value} {k : Nat} {v : Value} {e : Ending} (hr : r = (k, [])) (hk : k ≠ 0) (he : e = .returned (.tuple #[v, .iface 22 (.int .i64 (k : Int))])) : Gives r f e := by
  subst hr
  exact ⟨fun h => absurd h hk, fun _ => ⟨v, he⟩⟩
/-- the same of a struct -/
def GivesS (r : Nat × List Nat) (f : List Nat → Value) (e : Ending) : Prop :=
  (r.1 = 0 → e = .returned (.tuple #[f r.2, .nilIface])) ∧ (r.1 ≠ 0 → e = .returned (.tuple #[f [], .iface 22 (.int .i64 (r.1 : Int))]))
theorem GivesS.fine {r : Nat × List Nat} {f : List Nat → Value} {v : List Nat} {e : Ending} (hr : r = (0, v)) (he : e = .returned (.tuple #[f v, .nilIface])) : GivesS r f e := by
  subst hr
  exact ⟨fun _ => he, fun h => absurd rfl h⟩
theorem GivesS.bad {r : Nat × List Nat} {f : List Nat → Value} {k : Nat} {e : Ending} (hr : r = (k, [])) (hk : k ≠ 0) (he : e = .returned (.tuple #[f [], .iface 22 (.int .i64 (k : Int))])) : GivesS r f e := by
  subst hr
  exact ⟨fun h => absurd h hk, fun _ => he⟩
def n0 (v : List Nat) (i : Nat) : Int := ((v.getD i 0 : Nat) : Int)
def ifaceV (v : List Nat) : Value := .iface 295 (.agg #[.int .u8 (n0 v 0)])
def netV (v : List Nat) : Value := .agg #[.int .u32 (n0 v 0), .int .u32 (n0 v 1)]
def wordOf (p : Nat) : ByteArray := if p = 6 then ⟨#[116, 99, 112]⟩ else if p = 17 then ⟨#[117, 100, 112]⟩ else ⟨#[105, 99, 109, 112]⟩
def protoV (v : List Nat) : Value := .iface 279 (.agg #[.string (wordOf (v.getD 0 0)), .int .u8 (n0 v 0)])
def portsV (v : List Nat) : Value := .agg #[.int .u16 (n0 v 0), .int .u16 (n0 v 1)]
def flagsV (v : List Nat) : Value := .iface 256 (.agg #[.int .u8 (n0 v 0), .int .u8 (n0 v 1)])
def stateV (v : List Nat) : Value := .iface 304 (.agg #[.bool (v.getD 0 0 == 1), .bool (v.getD 1 0 == 1), .bool (v.getD 2 0 == 1)])

set_option maxHeartbeats 1600000 in
theorem readIface_any (s : ByteArray) (w : World) (hs : s.size ≤ 2000) :
    Calls Tryz.prog 168 #[.string s] w fun e w' => Gives (inVal s) ifaceV e ∧ w' = w := by
  cases hn : numOf s with
  | none =>
    have HC : Hid (Calls _ _ _ w _) := readNumber_none s w hs hn
    have HV : Hid (inVal s = (3, [])) := show inVal s = (3, []) by unfold inVal; rw [hn]
    clear hn
    go_enter Tryz.func168, Tryz.ntmps168
    go_wp2_with (go_at_call 181; refine HC.out.mono ?_; rintro e w' ⟨rfl, hw'⟩; obtain rfl : w = w' := hw'.symm)
    go_ret2
    exact ⟨Gives.bad HV.out (by decide) rfl, rfl⟩
  | some n =>
    have HC : Hid (Calls _ _ _ w _) := readNumber_some s n w hs hn
    by_cases hle : n ≤ 255
    · have HV : Hid (inVal s = (0, [n])) := show inVal s = (0, [n]) by unfold inVal; rw [hn]; simp only; rw [if_pos hle]
      have e1 : ((min n 65536 : Nat) : Int) = (n : Int) := by omega
      rw [e1] at HC
      have hle' : (n : Int) ≤ 255 := by omega
      clear hn e1 hle
      go_enter Tryz.func168, Tryz.ntmps168
      go_wp2_with (go_at_call 181; refine HC.out.mono ?_; rintro e w' ⟨rfl, hw'⟩; obtain rfl : w = w' := hw'.symm)
      go_ret2
      exact ⟨Gives.fine HV.out rfl, rfl⟩
    · have HV : Hid (inVal s = (5, [])) := show inVal s = (5, []) by unfold inVal; rw [hn]; simp only; rw [if_neg hle]
      obtain ⟨m, hm⟩ : ∃ m : Nat, min n 65536 = m := ⟨_, rfl⟩
      rw [hm] at HC
      have hle' : 255 < (m : Int) := by omega
      clear hn hle hm
      go_enter Tryz.func168, Tryz.ntmps168
      go_wp2_with (go_at_call 181; refine HC.out.mono ?_; rintro e w' ⟨rfl, hw'⟩; obtain rfl : w = w' := hw'.symm)
      go_ret2
      exact ⟨Gives.bad HV.out (by decide) rfl, rfl⟩

theorem bne_l {x : ByteArray} {l : List UInt8} (h : x ≠ ⟨l.toArray⟩) : (x.toList == l) = false := by
  have e : l = (⟨l.toArray⟩ : ByteArray).toList := by rw [ByteArray.toList_eq]
  rw [e, Lib.bytes_beq_false_iff]; exact h
theorem plc_of (ws : List ByteArray) (s : ByteArray) (k : Nat) (hk : k < ws.length) (h : ws.getD k ByteArray.empty = s) (hn : ∀ j, j < k → ws.getD j ByteArray.empty ≠ s) : plc ws s = (k : Int) := by
  show Lib.idxFromS ws s 0 = _
  rw [Lib.idxFromS_hit s ws k 0 hk h hn, Nat.zero_add]
theorem plc_no (ws : List ByteArray) (s : ByteArray) (h : ∀ j, j < ws.length → ws.getD j ByteArray.empty ≠ s) : plc ws s = -1 := Lib.idxFromS_miss s ws 0 h

set_option maxHeartbeats 1600000 in
theorem readProto_any (s : ByteArray) (w : World) :
    Calls Tryz.prog 170 #[.string s] w fun e w' => Gives (protoVal s) protoV e ∧ w' = w := by
  by_cases h1 : s = ⟨#[116, 99, 112]⟩
  · subst h1
    have HV : Hid (protoVal ⟨#[116, 99, 112]⟩ = (0, [6])) := show protoVal ⟨#[116, 99, 112]⟩ = (0, [6]) by kernel_rfl
    go_enter Tryz.func170, Tryz.ntmps170
    go_wp2
    go_ret2
    exact ⟨Gives.fine HV.out rfl, rfl⟩
  by_cases h2 : s = ⟨#[117, 100, 112]⟩
  · subst h2
    have HV : Hid (protoVal ⟨#[117, 100, 112]⟩ = (0, [17])) := show protoVal ⟨#[117, 100, 112]⟩ = (0, [17]) by kernel_rfl
    clear h1
    go_enter Tryz.func170, Tryz.ntmps170
    go_wp2
    go_ret2
    exact ⟨Gives.fine HV.out rfl, rfl⟩
  by_cases h3 : s = ⟨#[105, 99, 109, 112]⟩
  · subst h3
    have HV : Hid (protoVal ⟨#[105, 99, 109, 112]⟩ = (0, [1])) := show protoVal ⟨#[105, 99, 109, 112]⟩ = (0, [1]) by kernel_rfl
    clear h1 h2
    go_enter Tryz.func170, Tryz.ntmps170
    go_wp2
    go_ret2
    exact ⟨Gives.fine HV.out rfl, rfl⟩
  have HV : Hid (protoVal s = (3, [])) := show protoVal s = (3, []) by
    unfold protoVal
    rw [if_pos]
    rw [plc_no]
    · decide
    · intro j hj
      have : pws.length = 3 := rfl
      rcases j with _ | _ | _ | j
      · exact fun q => h3 q.symm
      · exact fun q => h1 q.symm
      · exact fun q => h2 q.symm
      · omega
  have e1 := bne_l (l := [116, 99, 112]) h1
  have e2 := bne_l (l := [117, 100, 112]) h2
  have e3 := bne_l (l := [105, 99, 109, 112]) h3
  clear h1 h2 h3
  go_enter Tryz.func170, Tryz.ntmps170
  go_wp2
  go_ret2
  exact ⟨Gives.bad HV.out (by decide) rfl, rfl⟩
end Go.Proofs.YtclpnafiiobfhabGreatDoor

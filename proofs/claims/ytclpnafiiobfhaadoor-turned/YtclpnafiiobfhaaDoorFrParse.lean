import Derived.Test.YtclpnafiiobfhaaDoorFrHead
namespace Go.Proofs.YtclpnafiiobfhaaDoor
open Go.RowKit
set_option linter.unusedVariables false
set_option linter.unusedSimpArgs false

theorem cls_zero (s : ByteArray) (h : cls s = 0) : 34 ≤ s.size ∧ 20 ≤ numv s 16 2 ∧ numv s 16 2 ≤ (s.size : Int) - 14 ∧ inn s (numv s 16 2) = false := by
  unfold cls at h
  repeat' split at h
  all_goals first | omega | skip
  rename_i c1 c2 c3 c4 c5 c6 c7 c8 c9
  refine ⟨by omega, by omega, by omega, by simpa using c9⟩

theorem headerOf_any (s : ByteArray) (b off cap : Nat) (w : World) (hs : s.size ≤ maxLen) (hr : Row w b off s) (hb : b < w.heap.size) (hc : cls s = 0) :
    Calls Tryd.prog 47 #[.slice (some ⟨b, off, none⟩) s.size cap] w fun e w' => e = .returned (.agg (hdr s)) ∧ Below w.heap.size w w' := by
  obtain ⟨h34, h20, hle, hin⟩ := cls_zero s hc
  by_cases p6 : nth s 23 = 6
  · have hz : 54 ≤ s.size := by
      have : ¬ numv s 16 2 < 40 := by intro h; simp [inn, p6, h] at hin
      omega
    have e : hdr s = #[.int .u32 (numv s 26 4), .int .u32 (numv s 30 4), .int .u8 (nth s 23), .int .u16 (numv s 34 2), .int .u16 (numv s 36 2), .int .u8 (nth s 47 % 64)] := by simp [hdr, p6]
    rw [e]
    exact headerOf_tcp s b off cap w hs hr hb h34 (by simp [p6]) hz
  by_cases p17 : nth s 23 = 17
  · have hz : 42 ≤ s.size := by
      have : ¬ numv s 16 2 < 28 := by intro h; simp [inn, p17, h] at hin
      omega
    have e : hdr s = #[.int .u32 (numv s 26 4), .int .u32 (numv s 30 4), .int .u8 (nth s 23), .int .u16 (numv s 34 2), .int .u16 (numv s 36 2), .int .u8 0] := by simp [hdr, p17]
    rw [e]
    exact headerOf_udp s b off cap w hs hr hb h34 (by simp [p17]) (by simp [p17]) hz
  by_cases p1 : nth s 23 = 1
  · have hz : 42 ≤ s.size := by
      have : ¬ numv s 16 2 < 28 := by intro h; simp [inn, p1, h] at hin
      omega
    by_cases pe : nth s 34 = 8 ∨ nth s 34 = 0
    · have e : hdr s = #[.int .u32 (numv s 26 4), .int .u32 (numv s 30 4), .int .u8 (nth s 23), .int .u16 (numv s 38 2), .int .u16 (numv s 38 2), .int .u8 (nth s 34)] := by simp [hdr, p1, pe]
      rw [e]
      exact headerOf_icmpe s b off cap w hs hr hb h34 (by simp [p1]) (by simp [p1]) (by simp [p1]) (by simpa using pe) hz
    · have e : hdr s = #[.int .u32 (numv s 26 4), .int .u32 (numv s 30 4), .int .u8 (nth s 23), .int .u16 0, .int .u16 0, .int .u8 (nth s 34)] := by simp [hdr, p1, pe]
      rw [e]
      exact headerOf_icmpn s b off cap w hs hr hb h34 (by simp [p1]) (by simp [p1]) (by simp [p1]) (by simpa using pe) hz
  · have e : hdr s = #[.int .u32 (numv s 26 4), .int .u32 (numv s 30 4), .int .u8 (nth s 23), .int .u16 0, .int .u16 0, .int .u8 0] := by simp [hdr, p6, p17, p1]
    rw [e]
    exact headerOf_other s b off cap w hs hr hb h34 (by simp [p6]) (by simp [p17]) (by simp [p1])

/-- what Parse gives -/
def parsedAs (s : ByteArray) : Value := .tuple #[.agg (if cls s = 0 then hdr s else hdr0), .int .u8 (cls s)]

set_option maxHeartbeats 800000 in
theorem frParse_bad (s : ByteArray) (b off cap : Nat) (w : World) (hs : s.size ≤ maxLen) (hr : Row w b off s) (hb : b < w.heap.size) (hc : (cls s != 0) = true) :
    Calls Tryd.prog 31 #[.slice (some ⟨b, off, none⟩) s.size cap] w fun e w' => e = .returned (.tuple #[.agg hdr0, .int .u8 (cls s)]) ∧ Below w.heap.size w w' := by
  have Hr : Hid (Row w b off s) := hr
  clear hr
  go_enter Tryd.func31, Tryd.ntmps31
  go_wp2_with fail
  refine (classOf_any s b off cap _ hs (Hr.out.alloc hb _)).mono ?_
  rintro e w1 ⟨rfl, n, rfl⟩
  go_wp2
  refine bodyPost_ret (v := .tuple #[.agg hdr0, .int .u8 (cls s)]) (by simp [results, Tryd.results31, go_sem, hdr0]) rfl ⟨rfl, ?_⟩
  repeat (first | with_reducible exact Below.refl _ _ | with_reducible refine below_drewN ?_ _ | with_reducible refine Below.setCell ?_ (by simp) _ | with_reducible refine Below.alloc ?_ (by simp) _)

set_option maxHeartbeats 800000 in
theorem frParse_fine (s : ByteArray) (b off cap : Nat) (w : World) (hs : s.size ≤ maxLen) (hr : Row w b off s) (hb : b < w.heap.size) (hc : cls s = 0) :
    Calls Tryd.prog 31 #[.slice (some ⟨b, off, none⟩) s.size cap] w fun e w' => e = .returned (.tuple #[.agg (hdr s), .int .u8 0]) ∧ Below w.heap.size w w' := by
  have Hr : Hid (Row w b off s) := hr
  have Hc : Hid (cls s = 0) := hc
  have hq : (cls s != 0) = false := by simp [hc]
  obtain ⟨x0, x1, x2, x3, x4, x5, hx⟩ : ∃ x0 x1 x2 x3 x4 x5 : Int, hdr s = #[.int .u32 x0, .int .u32 x1, .int .u8 x2, .int .u16 x3, .int .u16 x4, .int .u8 x5] := ⟨_, _, _, _, _, _, rfl⟩
  have HX := Hid.out (p := True) trivial
  clear hr hc HX
  rw [hx]
  have HX : Hid (hdr s = #[.int .u32 x0, .int .u32 x1, .int .u8 x2, .int .u16 x3, .int .u16 x4, .int .u8 x5]) := hx
  clear hx
  go_enter Tryd.func31, Tryd.ntmps31
  go_wp2_with fail
  refine (classOf_any s b off cap _ hs (Hr.out.alloc hb _)).mono ?_
  rintro e w1 ⟨rfl, n, rfl⟩
  go_wp2_with fail
  refine (headerOf_any s b off cap _ hs ((Hr.out.alloc hb _).drewN _) (by simp; omega) Hc.out).mono ?_
  rintro e w1 ⟨rfl, hb1⟩
  rw [HX.out]
  have hsz := hb1.size
  have q0 := hb1.cell (p := ⟨w.heap.size, 0, none⟩) (by simp)
  have q1 := hb1.cell (p := ⟨w.heap.size, 1, none⟩) (by simp)
  have q2 := hb1.cell (p := ⟨w.heap.size, 2, none⟩) (by simp)
  have q3 := hb1.cell (p := ⟨w.heap.size, 3, none⟩) (by simp)
  have q4 := hb1.cell (p := ⟨w.heap.size, 4, none⟩) (by simp)
  have q5 := hb1.cell (p := ⟨w.heap.size, 5, none⟩) (by simp)
  have f0 := hb1.frozen (p := ⟨w.heap.size, 0, none⟩) (by simp)
  have f1 := hb1.frozen (p := ⟨w.heap.size, 1, none⟩) (by simp)
  have f2 := hb1.frozen (p := ⟨w.heap.size, 2, none⟩) (by simp)
  have f3 := hb1.frozen (p := ⟨w.heap.size, 3, none⟩) (by simp)
  have f4 := hb1.frozen (p := ⟨w.heap.size, 4, none⟩) (by simp)
  have f5 := hb1.frozen (p := ⟨w.heap.size, 5, none⟩) (by simp)
  simp at q0 q1 q2 q3 q4 q5 f0 f1 f2 f3 f4 f5 hsz
  have HB : Hid (Below w.heap.size w w1) := by
    refine Below.trans ?_ (hb1.mono (by simp))
    repeat (first | with_reducible exact Below.refl _ _ | with_reducible refine below_drewN ?_ _ | with_reducible refine Below.alloc ?_ (by simp) _)
  clear hb1
  go_wp2
  refine bodyPost_ret (v := .tuple #[.agg #[.int .u32 x0, .int .u32 x1, .int .u8 x2, .int .u16 x3, .int .u16 x4, .int .u8 x5], .int .u8 0]) (by simp [results, Tryd.results31, go_sem, *]) rfl ⟨rfl, ?_⟩
  repeat (first | with_reducible exact HB.out | with_reducible refine below_drewN ?_ _ | with_reducible refine Below.setCell ?_ (by simp) _)

theorem frParse_any (s : ByteArray) (b off cap : Nat) (w : World) (hs : s.size ≤ maxLen) (hr : Row w b off s) (hb : b < w.heap.size) :
    Calls Tryd.prog 31 #[.slice (some ⟨b, off, none⟩) s.size cap] w fun e w' => e = .returned (parsedAs s) ∧ Below w.heap.size w w' := by
  by_cases hc : cls s = 0
  · rw [show parsedAs s = .tuple #[.agg (hdr s), .int .u8 0] from by simp [parsedAs, hc]]
    exact frParse_fine s b off cap w hs hr hb hc
  · rw [show parsedAs s = .tuple #[.agg hdr0, .int .u8 (cls s)] from by simp [parsedAs, hc]]
    exact frParse_bad s b off cap w hs hr hb (by simpa using hc)

theorem parsedAs_form (s : ByteArray) : ∃ x0 x1 x2 x3 x4 x5 : Int, parsedAs s = .tuple #[.agg #[.int .u32 x0, .int .u32 x1, .int .u8 x2, .int .u16 x3, .int .u16 x4, .int .u8 x5], .int .u8 (cls s)] := by
  unfold parsedAs
  by_cases hc : cls s = 0
  · rw [if_pos hc]; exact ⟨_, _, _, _, _, _, rfl⟩
  · rw [if_neg hc]; exact ⟨_, _, _, _, _, _, rfl⟩

set_option maxHeartbeats 800000 in
theorem parse_any (s : ByteArray) (b off cap : Nat) (w : World) (hs : s.size ≤ maxLen) (hr : Row w b off s) (hb : b < w.heap.size) :
    Calls Tryd.prog 17 #[.slice (some ⟨b, off, none⟩) s.size cap] w fun e w' => e = .returned (parsedAs s) ∧ Below w.heap.size w w' := by
  have Hr : Hid (Row w b off s) := hr
  obtain ⟨x0, x1, x2, x3, x4, x5, hx⟩ := parsedAs_form s
  clear hr
  rw [hx]
  have HX : Hid (parsedAs s = .tuple #[.agg #[.int .u32 x0, .int .u32 x1, .int .u8 x2, .int .u16 x3, .int .u16 x4, .int .u8 x5], .int .u8 (cls s)]) := hx
  clear hx
  go_enter Tryd.func17, Tryd.ntmps17
  go_wp2_with fail
  refine (frParse_any s b off cap _ hs (Hr.out.alloc hb _) (by simp; omega)).mono ?_
  rintro e w1 ⟨rfl, hb1⟩
  rw [HX.out]
  have hsz := hb1.size
  have q0 := hb1.cell (p := ⟨w.heap.size, 0, none⟩) (by simp)
  have q1 := hb1.cell (p := ⟨w.heap.size, 1, none⟩) (by simp)
  have q2 := hb1.cell (p := ⟨w.heap.size, 2, none⟩) (by simp)
  have q3 := hb1.cell (p := ⟨w.heap.size, 3, none⟩) (by simp)
  have q4 := hb1.cell (p := ⟨w.heap.size, 4, none⟩) (by simp)
  have q5 := hb1.cell (p := ⟨w.heap.size, 5, none⟩) (by simp)
  have f0 := hb1.frozen (p := ⟨w.heap.size, 0, none⟩) (by simp)
  have f1 := hb1.frozen (p := ⟨w.heap.size, 1, none⟩) (by simp)
  have f2 := hb1.frozen (p := ⟨w.heap.size, 2, none⟩) (by simp)
  have f3 := hb1.frozen (p := ⟨w.heap.size, 3, none⟩) (by simp)
  have f4 := hb1.frozen (p := ⟨w.heap.size, 4, none⟩) (by simp)
  have f5 := hb1.frozen (p := ⟨w.heap.size, 5, none⟩) (by simp)
  simp at q0 q1 q2 q3 q4 q5 f0 f1 f2 f3 f4 f5 hsz
  have HB : Hid (Below w.heap.size w w1) := by
    refine Below.trans ?_ (hb1.mono (by simp))
    repeat (first | with_reducible exact Below.refl _ _ | with_reducible refine below_drewN ?_ _ | with_reducible refine Below.alloc ?_ (by simp) _)
  clear hb1
  go_wp2
  refine bodyPost_ret (v := .tuple #[.agg #[.int .u32 x0, .int .u32 x1, .int .u8 x2, .int .u16 x3, .int .u16 x4, .int .u8 x5], .int .u8 (cls s)]) (by simp [results, Tryd.results17, go_sem, *]) rfl ⟨rfl, ?_⟩
  repeat (first | with_reducible exact HB.out | with_reducible refine below_drewN ?_ _ | with_reducible refine Below.setCell ?_ (by simp) _)
end Go.Proofs.YtclpnafiiobfhaaDoor

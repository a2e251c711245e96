import Derived.Test.YtclpnafiiobfhabGreatDoorFrPut
namespace Go.Proofs.YtclpnafiiobfhabGreatDoor
open Go.RowKit
set_option linter.unusedVariables false
set_option linter.unusedSimpArgs false

/-- what a box holds while block g is written -/
theorem box_cell {w w1 : World} {g : Nat} {x : Array Value} {T : TypeId} (h : Tch g (w.alloc (.cells x T)) w1) (hg : g < w.heap.size) (i : Nat) : w1.cell? ⟨w.heap.size, i, none⟩ = x[i]? := by
  rw [h.cell (p := ⟨w.heap.size, i, none⟩) (by simp) (by simp; omega), World.cell?_alloc_at _ _ _ _ rfl]

def isz (p : Int) : Int := if p = 6 then 20 else if p = 17 then 8 else if p = 1 then 8 else 0
theorem isz_bd (p : Int) : 0 ≤ isz p ∧ isz p ≤ 20 := by unfold isz; repeat' split
                                                        all_goals omega
theorem innerSize_any (p : Int) (w : World) :
    Calls Tryz.prog 59 #[.int .u8 p] w fun e w' => e = .returned (.int .i64 (isz p)) ∧ w' = w := by
  by_cases p6 : p = 6
  · subst p6
    go_enter Tryz.func59, Tryz.ntmps59
    go_wp2
    go_ret
    exact ⟨rfl, rfl⟩
  by_cases p17 : p = 17
  · subst p17
    go_enter Tryz.func59, Tryz.ntmps59
    go_wp2
    go_ret
    exact ⟨rfl, rfl⟩
  by_cases p1 : p = 1
  · subst p1
    go_enter Tryz.func59, Tryz.ntmps59
    go_wp2
    go_ret
    exact ⟨rfl, rfl⟩
  · rw [show isz p = 0 from by simp [isz, p6, p17, p1]]
    have q6 : (p == 6) = false := by simpa using p6
    have q17 : (p == 17) = false := by simpa using p17
    have q1 : (p == 1) = false := by simpa using p1
    clear p6 p17 p1
    go_enter Tryz.func59, Tryz.ntmps59
    go_wp2
    go_ret
    exact ⟨rfl, rfl⟩

set_option maxHeartbeats 1600000 in
theorem putInner_tcp (l : List Int) (g N cap : Nat) (a b p sp dp f n : Int) (w : World) (hN : l.length = N) (hl : N ≤ 2000) (hb : Buf w g l) (hsp : 0 ≤ sp ∧ sp ≤ 65535) (hdp : 0 ≤ dp ∧ dp ≤ 65535) (hn : 0 ≤ n ∧ n ≤ 1000) (h : 54 ≤ N) (q6 : (p == 6) = true) :
    Calls Tryz.prog 60 #[.slice (some ⟨g, 0, none⟩) N cap, .agg #[.int .u32 a, .int .u32 b, .int .u8 p, .int .u16 sp, .int .u16 dp, .int .u8 f], .int .i64 n] w fun e w' => e = .returned (.tuple #[]) ∧ Tch g w w' ∧ Buf w' g (((set2 (set2 l 34 sp) 36 dp).set 46 80).set 47 f) := by
  have hg := hb.lt
  have HB : Hid (Buf (w.alloc (.cells #[.int .u32 a, .int .u32 b, .int .u8 p, .int .u16 sp, .int .u16 dp, .int .u8 f] 28)) g l) := hb.alloc _
  have HT : Hid (Tch g w (w.alloc (.cells #[.int .u32 a, .int .u32 b, .int .u8 p, .int .u16 sp, .int .u16 dp, .int .u8 f] 28))) := (Tch.refl g w).alloc _
  have HN : Hid (l.length = N) := hN
  clear hb hN
  go_enter Tryz.func60, Tryz.ntmps60
  go_wp2_with fail
  refine (putHalf_any l g N cap 34 sp _ (by first | exact HN.out | (simp [set2_len]; exact HN.out)) hl HB.out (by omega) (by omega) (by omega)).mono ?_
  rintro e w1 ⟨rfl, ht1, hb1⟩
  simp only [tn34, tn36, tn38] at hb1
  have HX1 : Hid (Tch g (w.alloc (.cells #[.int .u32 a, .int .u32 b, .int .u8 p, .int .u16 sp, .int .u16 dp, .int .u8 f] 28)) w1) := ht1
  have HB1 : Hid (Buf w1 g (set2 l 34 sp)) := hb1
  clear ht1 hb1
  have x21 : w1.cell? ⟨w.heap.size, 2, none⟩ = some (.int .u8 p) := by rw [box_cell HX1.out hg]; rfl
  have x31 : w1.cell? ⟨w.heap.size, 3, none⟩ = some (.int .u16 sp) := by rw [box_cell HX1.out hg]; rfl
  have x41 : w1.cell? ⟨w.heap.size, 4, none⟩ = some (.int .u16 dp) := by rw [box_cell HX1.out hg]; rfl
  have x51 : w1.cell? ⟨w.heap.size, 5, none⟩ = some (.int .u8 f) := by rw [box_cell HX1.out hg]; rfl
  go_wp2_with fail
  refine (putHalf_any _ g N cap 36 dp _ (by first | exact HN.out | (simp [set2_len]; exact HN.out)) hl HB1.out (by omega) (by omega) (by omega)).mono ?_
  rintro e w2 ⟨rfl, ht2, hb2⟩
  simp only [tn34, tn36, tn38] at hb2
  have HX2 : Hid (Tch g (w.alloc (.cells #[.int .u32 a, .int .u32 b, .int .u8 p, .int .u16 sp, .int .u16 dp, .int .u8 f] 28)) w2) := HX1.out.trans ht2
  have HB2 : Hid (Buf w2 g (set2 (set2 l 34 sp) 36 dp)) := hb2
  have hlen : (set2 (set2 l 34 sp) 36 dp).length = N := by simp [set2_len]; exact HN.out
  have c46 := hb2.cell 46 (by omega)
  have c47 := hb2.cell 47 (by omega)
  have f46 := hb2.frozen 46
  have f47 := hb2.frozen 47
  have l46 : (46 : Int) < (N : Int) := by omega
  have l47 : (47 : Int) < (N : Int) := by omega
  have gn : w.heap.size ≠ g := by omega
  have gn' : g ≠ w.heap.size := by omega
  clear ht2 hb2 hlen x21 x31 x41 x51
  have x22 : w2.cell? ⟨w.heap.size, 2, none⟩ = some (.int .u8 p) := by rw [box_cell HX2.out hg]; rfl
  have x32 : w2.cell? ⟨w.heap.size, 3, none⟩ = some (.int .u16 sp) := by rw [box_cell HX2.out hg]; rfl
  have x42 : w2.cell? ⟨w.heap.size, 4, none⟩ = some (.int .u16 dp) := by rw [box_cell HX2.out hg]; rfl
  have x52 : w2.cell? ⟨w.heap.size, 5, none⟩ = some (.int .u8 f) := by rw [box_cell HX2.out hg]; rfl
  go_wp2
  go_end0
  exact ⟨rfl, HT.out.trans ((HX2.out.set _ _).set _ _), (HB2.out.set _ _).set _ _⟩

set_option maxHeartbeats 1600000 in
theorem putInner_udp (l : List Int) (g N cap : Nat) (a b p sp dp f n : Int) (w : World) (hN : l.length = N) (hl : N ≤ 2000) (hb : Buf w g l) (hsp : 0 ≤ sp ∧ sp ≤ 65535) (hdp : 0 ≤ dp ∧ dp ≤ 65535) (hn : 0 ≤ n ∧ n ≤ 1000) (h : 42 ≤ N) (q6 : (p == 6) = false) (q17 : (p == 17) = true) :
    Calls Tryz.prog 60 #[.slice (some ⟨g, 0, none⟩) N cap, .agg #[.int .u32 a, .int .u32 b, .int .u8 p, .int .u16 sp, .int .u16 dp, .int .u8 f], .int .i64 n] w fun e w' => e = .returned (.tuple #[]) ∧ Tch g w w' ∧ Buf w' g (set2 (set2 (set2 l 34 sp) 36 dp) 38 (8 + n)) := by
  have hg := hb.lt
  have HB : Hid (Buf (w.alloc (.cells #[.int .u32 a, .int .u32 b, .int .u8 p, .int .u16 sp, .int .u16 dp, .int .u8 f] 28)) g l) := hb.alloc _
  have HT : Hid (Tch g w (w.alloc (.cells #[.int .u32 a, .int .u32 b, .int .u8 p, .int .u16 sp, .int .u16 dp, .int .u8 f] 28))) := (Tch.refl g w).alloc _
  have HN : Hid (l.length = N) := hN
  clear hb hN
  go_enter Tryz.func60, Tryz.ntmps60
  go_wp2_with fail
  refine (putHalf_any l g N cap 34 sp _ (by first | exact HN.out | (simp [set2_len]; exact HN.out)) hl HB.out (by omega) (by omega) (by omega)).mono ?_
  rintro e w1 ⟨rfl, ht1, hb1⟩
  simp only [tn34, tn36, tn38] at hb1
  have HX1 : Hid (Tch g (w.alloc (.cells #[.int .u32 a, .int .u32 b, .int .u8 p, .int .u16 sp, .int .u16 dp, .int .u8 f] 28)) w1) := ht1
  have HB1 : Hid (Buf w1 g (set2 l 34 sp)) := hb1
  clear ht1 hb1
  have x21 : w1.cell? ⟨w.heap.size, 2, none⟩ = some (.int .u8 p) := by rw [box_cell HX1.out hg]; rfl
  have x31 : w1.cell? ⟨w.heap.size, 3, none⟩ = some (.int .u16 sp) := by rw [box_cell HX1.out hg]; rfl
  have x41 : w1.cell? ⟨w.heap.size, 4, none⟩ = some (.int .u16 dp) := by rw [box_cell HX1.out hg]; rfl
  have x51 : w1.cell? ⟨w.heap.size, 5, none⟩ = some (.int .u8 f) := by rw [box_cell HX1.out hg]; rfl
  go_wp2_with fail
  refine (putHalf_any _ g N cap 36 dp _ (by first | exact HN.out | (simp [set2_len]; exact HN.out)) hl HB1.out (by omega) (by omega) (by omega)).mono ?_
  rintro e w2 ⟨rfl, ht2, hb2⟩
  simp only [tn34, tn36, tn38] at hb2
  have HX2 : Hid (Tch g (w.alloc (.cells #[.int .u32 a, .int .u32 b, .int .u8 p, .int .u16 sp, .int .u16 dp, .int .u8 f] 28)) w2) := HX1.out.trans ht2
  have HB2 : Hid (Buf w2 g (set2 (set2 l 34 sp) 36 dp)) := hb2
  clear ht2 hb2 x21 x31 x41 x51
  have x22 : w2.cell? ⟨w.heap.size, 2, none⟩ = some (.int .u8 p) := by rw [box_cell HX2.out hg]; rfl
  have x32 : w2.cell? ⟨w.heap.size, 3, none⟩ = some (.int .u16 sp) := by rw [box_cell HX2.out hg]; rfl
  have x42 : w2.cell? ⟨w.heap.size, 4, none⟩ = some (.int .u16 dp) := by rw [box_cell HX2.out hg]; rfl
  have x52 : w2.cell? ⟨w.heap.size, 5, none⟩ = some (.int .u8 f) := by rw [box_cell HX2.out hg]; rfl
  go_wp2_with fail
  refine (putHalf_any _ g N cap 38 (8 + n) _ (by first | exact HN.out | (simp [set2_len]; exact HN.out)) hl HB2.out (by omega) (by omega) (by omega)).mono ?_
  rintro e w3 ⟨rfl, ht3, hb3⟩
  simp only [tn34, tn36, tn38] at hb3
  go_wp2
  go_end0
  exact ⟨rfl, HT.out.trans (HX2.out.trans ht3), hb3⟩

set_option maxHeartbeats 1600000 in
theorem putInner_icmp (l : List Int) (g N cap : Nat) (a b p sp dp f n : Int) (w : World) (hN : l.length = N) (hl : N ≤ 2000) (hb : Buf w g l) (hsp : 0 ≤ sp ∧ sp ≤ 65535) (hdp : 0 ≤ dp ∧ dp ≤ 65535) (hn : 0 ≤ n ∧ n ≤ 1000) (h : 42 ≤ N) (q6 : (p == 6) = false) (q17 : (p == 17) = false) (q1 : (p == 1) = true) :
    Calls Tryz.prog 60 #[.slice (some ⟨g, 0, none⟩) N cap, .agg #[.int .u32 a, .int .u32 b, .int .u8 p, .int .u16 sp, .int .u16 dp, .int .u8 f], .int .i64 n] w fun e w' => e = .returned (.tuple #[]) ∧ Tch g w w' ∧ Buf w' g (set2 (l.set 34 f) 38 sp) := by
  have hg := hb.lt
  have HB : Hid (Buf (w.alloc (.cells #[.int .u32 a, .int .u32 b, .int .u8 p, .int .u16 sp, .int .u16 dp, .int .u8 f] 28)) g l) := hb.alloc _
  have HT : Hid (Tch g w (w.alloc (.cells #[.int .u32 a, .int .u32 b, .int .u8 p, .int .u16 sp, .int .u16 dp, .int .u8 f] 28))) := (Tch.refl g w).alloc _
  have HN : Hid (l.length = N) := hN
  have HW : Hid (Buf w g l) := hb
  have c34 := hb.cell 34 (by omega)
  have f34 := hb.frozen 34
  have l34 : (34 : Int) < (N : Int) := by omega
  have gn : w.heap.size ≠ g := by omega
  have gn' : g ≠ w.heap.size := by omega
  clear hb hN
  go_enter Tryz.func60, Tryz.ntmps60
  go_wp2_with fail
  refine (putHalf_any (l.set 34 f) g N cap 38 sp _ (by simp; exact HN.out) hl ((HW.out.set 34 f).alloc _) (by omega) (by omega) (by omega)).mono ?_
  rintro e w1 ⟨rfl, ht1, hb1⟩
  simp only [tn38] at hb1
  go_wp2
  go_end0
  exact ⟨rfl, (((Tch.refl g w).set 34 (.int .u8 f)).alloc _).trans ht1, hb1⟩

set_option maxHeartbeats 1600000 in
theorem putInner_other (l : List Int) (g N cap : Nat) (a b p sp dp f n : Int) (w : World) (hN : l.length = N) (hl : N ≤ 2000) (hb : Buf w g l) (hsp : 0 ≤ sp ∧ sp ≤ 65535) (hdp : 0 ≤ dp ∧ dp ≤ 65535) (hn : 0 ≤ n ∧ n ≤ 1000) (h : 34 ≤ N) (q6 : (p == 6) = false) (q17 : (p == 17) = false) (q1 : (p == 1) = false) :
    Calls Tryz.prog 60 #[.slice (some ⟨g, 0, none⟩) N cap, .agg #[.int .u32 a, .int .u32 b, .int .u8 p, .int .u16 sp, .int .u16 dp, .int .u8 f], .int .i64 n] w fun e w' => e = .returned (.tuple #[]) ∧ Tch g w w' ∧ Buf w' g (l) := by
  have hg := hb.lt
  have HB : Hid (Buf (w.alloc (.cells #[.int .u32 a, .int .u32 b, .int .u8 p, .int .u16 sp, .int .u16 dp, .int .u8 f] 28)) g l) := hb.alloc _
  have HT : Hid (Tch g w (w.alloc (.cells #[.int .u32 a, .int .u32 b, .int .u8 p, .int .u16 sp, .int .u16 dp, .int .u8 f] 28))) := (Tch.refl g w).alloc _
  have HN : Hid (l.length = N) := hN
  clear hb hN
  go_enter Tryz.func60, Tryz.ntmps60
  go_wp2
  go_end0
  exact ⟨rfl, HT.out, HB.out⟩

end Go.Proofs.YtclpnafiiobfhabGreatDoor
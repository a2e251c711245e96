import Derived.Test.YtclpnafiiobfhaaDoorRefMay
import Derived.Test.YtclpnafiiobfhaaDoorRefNum
import Derived.Test.YtclpnafiiobfhaaDoorFrBuild
namespace Go.Proofs.YtclpnafiiobfhaaDoor
open Go.RowKit
set_option linter.unusedVariables false
set_option linter.unusedSimpArgs false

theorem Buf.conv {w : World} {g : Nat} {l : List Int} (h : Buf w g l) (hl : Byt l) (N cap : Nat) (hN : l.length = N) : (convert 35 9 (.slice (some ⟨g, 0, none⟩) N cap)).run Tryd.prog w = .ok (.string (ofL l)) w := by
  have hc := Lib.run_convert_whole (P := Tryd.prog) w 35 5 9 Tryd.underlying35 Tryd.underlying5 Tryd.underlying9 g 0 (ofL l) (fun i hi => by rw [nth_at (ofL l) i hi]; exact h.row hl i hi) cap
  rw [ofL_size, hN] at hc
  exact hc

theorem ret_sb {x y : ByteArray} {t : Bool} (h : x = y) : Ending.returned (.tuple #[.string x, .bool t]) = .returned (.tuple #[.string y, .bool t]) := by rw [h]
/-- j bytes of content laid from K on -/
def payTo (l : List Int) (K : Nat) (pl : List Int) : Nat → List Int
  | 0 => l
  | j + 1 => (payTo l K pl j).set (K + j) (pl.getD j 0)
theorem payTo_len (l : List Int) (K : Nat) (pl : List Int) (j : Nat) : (payTo l K pl j).length = l.length := by
  induction j with
  | zero => rfl
  | succ j ih => simp [payTo, ih]
theorem payTo_get (l : List Int) (K : Nat) (pl : List Int) (j : Nat) (hl : K + j ≤ l.length) (i : Nat) : (payTo l K pl j)[i]? = if K ≤ i ∧ i < K + j then some (pl.getD (i - K) 0) else l[i]? := by
  induction j with
  | zero => simp [payTo]; omega
  | succ j ih =>
    simp only [payTo, List.getElem?_set, payTo_len]
    by_cases e : K + j = i
    · subst e
      simp
      omega
    · rw [if_neg e, ih (by omega)]
      by_cases c : K ≤ i ∧ i < K + j
      · rw [if_pos c, if_pos (by omega)]
      · rw [if_neg c, if_neg (by omega)]
theorem payTo_all (l : List Int) (K : Nat) (pl : List Int) (hl : l.length = K + pl.length) : payTo l K pl pl.length = l.take K ++ pl := by
  apply List.ext_getElem?
  intro i
  rw [payTo_get l K pl pl.length (by omega) i]
  by_cases c1 : i < K
  · rw [if_neg (by omega), List.getElem?_append_left (by simp; omega), List.getElem?_take_of_lt c1]
  · rw [List.getElem?_append_right (by simp; omega)]
    have e : (l.take K).length = K := by simp; omega
    rw [e]
    by_cases c2 : i < K + pl.length
    · rw [if_pos (by omega), List.getD_eq_getElem?_getD, List.getElem?_eq_getElem (by omega)]; rfl
    · rw [if_neg (by omega), List.getElem?_eq_none (by omega), List.getElem?_eq_none (by omega)]

set_option maxRecDepth 100000 in
set_option maxHeartbeats 3200000 in
theorem refBuild_tcp (a b p sp dp f : Int) (s : ByteArray) (w : World) (hra : 0 ≤ a ∧ a ≤ 4294967295) (hrb : 0 ≤ b ∧ b ≤ 4294967295) (hrp : 0 ≤ p ∧ p ≤ 255) (hsp : 0 ≤ sp ∧ sp ≤ 65535) (hdp : 0 ≤ dp ∧ dp ≤ 65535) (hf : 0 ≤ f ∧ f ≤ 255) (hm : s.size ≤ 1000) (hmay : mayB p sp dp f = true) (p6 : p = 6) :
    Calls Tryd.prog 22 #[.agg #[.int .u32 a, .int .u32 b, .int .u8 p, .int .u16 sp, .int .u16 dp, .int .u8 f], .string s] w fun e w' => e = .returned (.tuple #[.string (ofL (set2 ((((set2 (set2 (set4 (set4 (set2 (((((List.replicate (54 + s.size) 0).set 12 8).set 14 69).set 22 64).set 23 p) 16 (40 + (s.size : Int))) 26 a) 30 b) 34 sp) 36 dp).set 46 80).set 47 f).take 54 ++ toL s) 24 (65535 - fold (sumTo (ofL ((((set2 (set2 (set4 (set4 (set2 (((((List.replicate (54 + s.size) 0).set 12 8).set 14 69).set 22 64).set 23 p) 16 (40 + (s.size : Int))) 26 a) 30 b) 34 sp) 36 dp).set 46 80).set 47 f).take 54 ++ toL s)) 10)))), .bool true]) ∧ Below w.heap.size w w' := by
  have q6 : (p == 6) = true := by simp [p6]
  have HM : Hid (mayB p sp dp f = true) := hmay
  clear hmay p6
  have hm' : (s.size : Int) ≤ 1000 := by omega
  have HYp : Hid (Byt (toL s)) := toL_byt s
  obtain ⟨wm, hwm⟩ : ∃ wm, wm = ((w.alloc (.cells #[.int .u32 a, .int .u32 b, .int .u8 p, .int .u16 sp, .int .u16 dp, .int .u8 f] 28)).alloc (.cells #[.int .u32 a, .int .u32 b, .int .u8 p, .int .u16 sp, .int .u16 dp, .int .u8 f] 28)).alloc (.cells (madeCells #[.int .u8 0] (54 + s.size)) 5) := ⟨_, rfl⟩
  have hmk : (Instr.makeSlice 35 (.int .i64 (54 + (s.size : Int))) (.int .i64 (54 + (s.size : Int)))).run Tryd.prog ((w.alloc (.cells #[.int .u32 a, .int .u32 b, .int .u8 p, .int .u16 sp, .int .u16 dp, .int .u8 f] 28)).alloc (.cells #[.int .u32 a, .int .u32 b, .int .u8 p, .int .u16 sp, .int .u16 dp, .int .u8 f] 28)) = .ok (.slice (some ⟨w.heap.size + 1 + 1, 0, none⟩) (54 + s.size) (54 + s.size)) wm := by
    have h := run_make_row' (P := Tryd.prog) 35 5 (.int .u8 0) 1 Tryd.underlying35 Tryd.info8 rfl .i64 .i64 (54 + s.size) (by omega) (by omega) ((w.alloc (.cells #[.int .u32 a, .int .u32 b, .int .u8 p, .int .u16 sp, .int .u16 dp, .int .u8 f] 28)).alloc (.cells #[.int .u32 a, .int .u32 b, .int .u8 p, .int .u16 sp, .int .u16 dp, .int .u8 f] 28))
    rw [show ((((54 + s.size) : Nat)) : Int) = 54 + (s.size : Int) from by omega, ← hwm, show ((w.alloc (.cells #[.int .u32 a, .int .u32 b, .int .u8 p, .int .u16 sp, .int .u16 dp, .int .u8 f] 28)).alloc (.cells #[.int .u32 a, .int .u32 b, .int .u8 p, .int .u16 sp, .int .u16 dp, .int .u8 f] 28)).heap.size = w.heap.size + 1 + 1 from by simp] at h
    exact h
  have HB0 : Hid (Buf wm (w.heap.size + 1 + 1) (List.replicate (54 + s.size) 0)) := by
    have h := Buf.made ((w.alloc (.cells #[.int .u32 a, .int .u32 b, .int .u8 p, .int .u16 sp, .int .u16 dp, .int .u8 f] 28)).alloc (.cells #[.int .u32 a, .int .u32 b, .int .u8 p, .int .u16 sp, .int .u16 dp, .int .u8 f] 28)) (54 + s.size)
    rw [show ((w.alloc (.cells #[.int .u32 a, .int .u32 b, .int .u8 p, .int .u16 sp, .int .u16 dp, .int .u8 f] 28)).alloc (.cells #[.int .u32 a, .int .u32 b, .int .u8 p, .int .u16 sp, .int .u16 dp, .int .u8 f] 28)).heap.size = w.heap.size + 1 + 1 from by simp, ← hwm] at h
    exact h
  have HW : Hid (Below w.heap.size w wm) := by
    rw [hwm]; exact (((Below.refl _ _).alloc (Nat.le_refl _) _).alloc (by simp) _).alloc (by simp; omega) _
  have zm : wm.heap.size = w.heap.size + 1 + 1 + 1 := by rw [hwm]; simp
  have x0 : wm.cell? ⟨w.heap.size, 0, none⟩ = some (.int .u32 a) := by rw [hwm, World.cell?_alloc_lt _ _ _ (by simp; omega), World.cell?_alloc_lt _ _ _ (by simp), World.cell?_alloc_at _ _ _ _ rfl]; rfl
  have x1 : wm.cell? ⟨w.heap.size, 1, none⟩ = some (.int .u32 b) := by rw [hwm, World.cell?_alloc_lt _ _ _ (by simp; omega), World.cell?_alloc_lt _ _ _ (by simp), World.cell?_alloc_at _ _ _ _ rfl]; rfl
  have x2 : wm.cell? ⟨w.heap.size, 2, none⟩ = some (.int .u8 p) := by rw [hwm, World.cell?_alloc_lt _ _ _ (by simp; omega), World.cell?_alloc_lt _ _ _ (by simp), World.cell?_alloc_at _ _ _ _ rfl]; rfl
  have x3 : wm.cell? ⟨w.heap.size, 3, none⟩ = some (.int .u16 sp) := by rw [hwm, World.cell?_alloc_lt _ _ _ (by simp; omega), World.cell?_alloc_lt _ _ _ (by simp), World.cell?_alloc_at _ _ _ _ rfl]; rfl
  have x4 : wm.cell? ⟨w.heap.size, 4, none⟩ = some (.int .u16 dp) := by rw [hwm, World.cell?_alloc_lt _ _ _ (by simp; omega), World.cell?_alloc_lt _ _ _ (by simp), World.cell?_alloc_at _ _ _ _ rfl]; rfl
  have x5 : wm.cell? ⟨w.heap.size, 5, none⟩ = some (.int .u8 f) := by rw [hwm, World.cell?_alloc_lt _ _ _ (by simp; omega), World.cell?_alloc_lt _ _ _ (by simp), World.cell?_alloc_at _ _ _ _ rfl]; rfl
  clear hwm
  have XX0 : Hid (wm.cell? ⟨w.heap.size, 0, none⟩ = some (.int .u32 a)) := x0
  have XX1 : Hid (wm.cell? ⟨w.heap.size, 1, none⟩ = some (.int .u32 b)) := x1
  have XX2 : Hid (wm.cell? ⟨w.heap.size, 2, none⟩ = some (.int .u8 p)) := x2
  have XX3 : Hid (wm.cell? ⟨w.heap.size, 3, none⟩ = some (.int .u16 sp)) := x3
  have XX4 : Hid (wm.cell? ⟨w.heap.size, 4, none⟩ = some (.int .u16 dp)) := x4
  have XX5 : Hid (wm.cell? ⟨w.heap.size, 5, none⟩ = some (.int .u8 f)) := x5
  have c12 := HB0.out.cell 12 (by simp; omega)
  have f12 := HB0.out.frozen 12
  have l12 : (12 : Int) < ((((54 + s.size) : Nat)) : Int) := by omega
  have c14 := HB0.out.cell 14 (by simp; omega)
  have f14 := HB0.out.frozen 14
  have l14 : (14 : Int) < ((((54 + s.size) : Nat)) : Int) := by omega
  have c22 := HB0.out.cell 22 (by simp; omega)
  have f22 := HB0.out.frozen 22
  have l22 : (22 : Int) < ((((54 + s.size) : Nat)) : Int) := by omega
  have c23 := HB0.out.cell 23 (by simp; omega)
  have f23 := HB0.out.frozen 23
  have l23 : (23 : Int) < ((((54 + s.size) : Nat)) : Int) := by omega
  have gn : w.heap.size ≠ w.heap.size + 1 + 1 := by omega
  go_enter Tryd.func22, Tryd.ntmps22
  go_wp2_with ((go_at_call 32; refine (may_any _ _ _ _ _ _ _).mono ?_; rintro e w' ⟨rfl, rfl⟩; rw [HM.out]))
  have HB : Hid (Buf ((((wm.setCell ⟨(w.heap.size + 1 + 1), 12, none⟩ (.int .u8 8)).setCell ⟨(w.heap.size + 1 + 1), 14, none⟩ (.int .u8 69)).setCell ⟨(w.heap.size + 1 + 1), 22, none⟩ (.int .u8 64)).setCell ⟨(w.heap.size + 1 + 1), 23, none⟩ (.int .u8 p)) (w.heap.size + 1 + 1) (((((List.replicate (54 + s.size) 0).set 12 8).set 14 69).set 22 64).set 23 p)) := (((HB0.out.set 12 8).set 14 69).set 22 64).set 23 p
  have HX : Hid (Tch (w.heap.size + 1 + 1) wm ((((wm.setCell ⟨(w.heap.size + 1 + 1), 12, none⟩ (.int .u8 8)).setCell ⟨(w.heap.size + 1 + 1), 14, none⟩ (.int .u8 69)).setCell ⟨(w.heap.size + 1 + 1), 22, none⟩ (.int .u8 64)).setCell ⟨(w.heap.size + 1 + 1), 23, none⟩ (.int .u8 p))) := ((((Tch.refl _ _).set _ _).set _ _).set _ _).set _ _
  refine (put2_any (((((List.replicate (54 + s.size) 0).set 12 8).set 14 69).set 22 64).set 23 p) (w.heap.size + 1 + 1) (54 + s.size) (54 + s.size) 16 (40 + (s.size : Int)) _ (by simp [set2_len, set4_len]) (by omega) HB.out (by omega) (by omega) (by omega)).mono ?_
  rintro e w1 ⟨rfl, ht1, hb1⟩
  simp only [tn16, tn26, tn30, tn34, tn36, tn38] at hb1
  have HX1 : Hid (Tch (w.heap.size + 1 + 1) wm w1) := HX.out.trans ht1
  have HB1 : Hid (Buf w1 (w.heap.size + 1 + 1) (set2 (((((List.replicate (54 + s.size) 0).set 12 8).set 14 69).set 22 64).set 23 p) 16 (40 + (s.size : Int)))) := hb1
  clear ht1 hb1
  have x0_1 : w1.cell? ⟨w.heap.size, 0, none⟩ = some (.int .u32 a) := by rw [HX1.out.cell (p := ⟨w.heap.size, 0, none⟩) (by simp; omega) (by simp; omega)]; exact XX0.out
  have x1_1 : w1.cell? ⟨w.heap.size, 1, none⟩ = some (.int .u32 b) := by rw [HX1.out.cell (p := ⟨w.heap.size, 1, none⟩) (by simp; omega) (by simp; omega)]; exact XX1.out
  have x2_1 : w1.cell? ⟨w.heap.size, 2, none⟩ = some (.int .u8 p) := by rw [HX1.out.cell (p := ⟨w.heap.size, 2, none⟩) (by simp; omega) (by simp; omega)]; exact XX2.out
  have x3_1 : w1.cell? ⟨w.heap.size, 3, none⟩ = some (.int .u16 sp) := by rw [HX1.out.cell (p := ⟨w.heap.size, 3, none⟩) (by simp; omega) (by simp; omega)]; exact XX3.out
  have x4_1 : w1.cell? ⟨w.heap.size, 4, none⟩ = some (.int .u16 dp) := by rw [HX1.out.cell (p := ⟨w.heap.size, 4, none⟩) (by simp; omega) (by simp; omega)]; exact XX4.out
  have x5_1 : w1.cell? ⟨w.heap.size, 5, none⟩ = some (.int .u8 f) := by rw [HX1.out.cell (p := ⟨w.heap.size, 5, none⟩) (by simp; omega) (by simp; omega)]; exact XX5.out
  clear x0 x1 x2 x3 x4 x5 c12 f12 c14 f14 c22 f22 c23 f23
  go_wp2_with fail
  refine (put4_any (set2 (((((List.replicate (54 + s.size) 0).set 12 8).set 14 69).set 22 64).set 23 p) 16 (40 + (s.size : Int))) (w.heap.size + 1 + 1) (54 + s.size) (54 + s.size) 26 a _ (by simp [set2_len, set4_len]) (by omega) HB1.out (by omega) (by omega) (by omega)).mono ?_
  rintro e w2 ⟨rfl, ht2, hb2⟩
  simp only [tn16, tn26, tn30, tn34, tn36, tn38] at hb2
  have HX2 : Hid (Tch (w.heap.size + 1 + 1) wm w2) := HX1.out.trans ht2
  have HB2 : Hid (Buf w2 (w.heap.size + 1 + 1) (set4 (set2 (((((List.replicate (54 + s.size) 0).set 12 8).set 14 69).set 22 64).set 23 p) 16 (40 + (s.size : Int))) 26 a)) := hb2
  clear ht2 hb2
  have x0_2 : w2.cell? ⟨w.heap.size, 0, none⟩ = some (.int .u32 a) := by rw [HX2.out.cell (p := ⟨w.heap.size, 0, none⟩) (by simp; omega) (by simp; omega)]; exact XX0.out
  have x1_2 : w2.cell? ⟨w.heap.size, 1, none⟩ = some (.int .u32 b) := by rw [HX2.out.cell (p := ⟨w.heap.size, 1, none⟩) (by simp; omega) (by simp; omega)]; exact XX1.out
  have x2_2 : w2.cell? ⟨w.heap.size, 2, none⟩ = some (.int .u8 p) := by rw [HX2.out.cell (p := ⟨w.heap.size, 2, none⟩) (by simp; omega) (by simp; omega)]; exact XX2.out
  have x3_2 : w2.cell? ⟨w.heap.size, 3, none⟩ = some (.int .u16 sp) := by rw [HX2.out.cell (p := ⟨w.heap.size, 3, none⟩) (by simp; omega) (by simp; omega)]; exact XX3.out
  have x4_2 : w2.cell? ⟨w.heap.size, 4, none⟩ = some (.int .u16 dp) := by rw [HX2.out.cell (p := ⟨w.heap.size, 4, none⟩) (by simp; omega) (by simp; omega)]; exact XX4.out
  have x5_2 : w2.cell? ⟨w.heap.size, 5, none⟩ = some (.int .u8 f) := by rw [HX2.out.cell (p := ⟨w.heap.size, 5, none⟩) (by simp; omega) (by simp; omega)]; exact XX5.out
  clear x0_1 x1_1 x2_1 x3_1 x4_1 x5_1
  go_wp2_with fail
  refine (put4_any (set4 (set2 (((((List.replicate (54 + s.size) 0).set 12 8).set 14 69).set 22 64).set 23 p) 16 (40 + (s.size : Int))) 26 a) (w.heap.size + 1 + 1) (54 + s.size) (54 + s.size) 30 b _ (by simp [set2_len, set4_len]) (by omega) HB2.out (by omega) (by omega) (by omega)).mono ?_
  rintro e w3 ⟨rfl, ht3, hb3⟩
  simp only [tn16, tn26, tn30, tn34, tn36, tn38] at hb3
  have HX3 : Hid (Tch (w.heap.size + 1 + 1) wm w3) := HX2.out.trans ht3
  have HB3 : Hid (Buf w3 (w.heap.size + 1 + 1) (set4 (set4 (set2 (((((List.replicate (54 + s.size) 0).set 12 8).set 14 69).set 22 64).set 23 p) 16 (40 + (s.size : Int))) 26 a) 30 b)) := hb3
  clear ht3 hb3
  have x0_3 : w3.cell? ⟨w.heap.size, 0, none⟩ = some (.int .u32 a) := by rw [HX3.out.cell (p := ⟨w.heap.size, 0, none⟩) (by simp; omega) (by simp; omega)]; exact XX0.out
  have x1_3 : w3.cell? ⟨w.heap.size, 1, none⟩ = some (.int .u32 b) := by rw [HX3.out.cell (p := ⟨w.heap.size, 1, none⟩) (by simp; omega) (by simp; omega)]; exact XX1.out
  have x2_3 : w3.cell? ⟨w.heap.size, 2, none⟩ = some (.int .u8 p) := by rw [HX3.out.cell (p := ⟨w.heap.size, 2, none⟩) (by simp; omega) (by simp; omega)]; exact XX2.out
  have x3_3 : w3.cell? ⟨w.heap.size, 3, none⟩ = some (.int .u16 sp) := by rw [HX3.out.cell (p := ⟨w.heap.size, 3, none⟩) (by simp; omega) (by simp; omega)]; exact XX3.out
  have x4_3 : w3.cell? ⟨w.heap.size, 4, none⟩ = some (.int .u16 dp) := by rw [HX3.out.cell (p := ⟨w.heap.size, 4, none⟩) (by simp; omega) (by simp; omega)]; exact XX4.out
  have x5_3 : w3.cell? ⟨w.heap.size, 5, none⟩ = some (.int .u8 f) := by rw [HX3.out.cell (p := ⟨w.heap.size, 5, none⟩) (by simp; omega) (by simp; omega)]; exact XX5.out
  clear x0_2 x1_2 x2_2 x3_2 x4_2 x5_2
  go_wp2_with fail
  refine (put2_any (set4 (set4 (set2 (((((List.replicate (54 + s.size) 0).set 12 8).set 14 69).set 22 64).set 23 p) 16 (40 + (s.size : Int))) 26 a) 30 b) (w.heap.size + 1 + 1) (54 + s.size) (54 + s.size) 34 sp _ (by simp [set2_len, set4_len]) (by omega) HB3.out (by omega) (by omega) (by omega)).mono ?_
  rintro e w4 ⟨rfl, ht4, hb4⟩
  simp only [tn16, tn26, tn30, tn34, tn36, tn38] at hb4
  have HX4 : Hid (Tch (w.heap.size + 1 + 1) wm w4) := HX3.out.trans ht4
  have HB4 : Hid (Buf w4 (w.heap.size + 1 + 1) (set2 (set4 (set4 (set2 (((((List.replicate (54 + s.size) 0).set 12 8).set 14 69).set 22 64).set 23 p) 16 (40 + (s.size : Int))) 26 a) 30 b) 34 sp)) := hb4
  clear ht4 hb4
  have x0_4 : w4.cell? ⟨w.heap.size, 0, none⟩ = some (.int .u32 a) := by rw [HX4.out.cell (p := ⟨w.heap.size, 0, none⟩) (by simp; omega) (by simp; omega)]; exact XX0.out
  have x1_4 : w4.cell? ⟨w.heap.size, 1, none⟩ = some (.int .u32 b) := by rw [HX4.out.cell (p := ⟨w.heap.size, 1, none⟩) (by simp; omega) (by simp; omega)]; exact XX1.out
  have x2_4 : w4.cell? ⟨w.heap.size, 2, none⟩ = some (.int .u8 p) := by rw [HX4.out.cell (p := ⟨w.heap.size, 2, none⟩) (by simp; omega) (by simp; omega)]; exact XX2.out
  have x3_4 : w4.cell? ⟨w.heap.size, 3, none⟩ = some (.int .u16 sp) := by rw [HX4.out.cell (p := ⟨w.heap.size, 3, none⟩) (by simp; omega) (by simp; omega)]; exact XX3.out
  have x4_4 : w4.cell? ⟨w.heap.size, 4, none⟩ = some (.int .u16 dp) := by rw [HX4.out.cell (p := ⟨w.heap.size, 4, none⟩) (by simp; omega) (by simp; omega)]; exact XX4.out
  have x5_4 : w4.cell? ⟨w.heap.size, 5, none⟩ = some (.int .u8 f) := by rw [HX4.out.cell (p := ⟨w.heap.size, 5, none⟩) (by simp; omega) (by simp; omega)]; exact XX5.out
  clear x0_3 x1_3 x2_3 x3_3 x4_3 x5_3
  go_wp2_with fail
  refine (put2_any (set2 (set4 (set4 (set2 (((((List.replicate (54 + s.size) 0).set 12 8).set 14 69).set 22 64).set 23 p) 16 (40 + (s.size : Int))) 26 a) 30 b) 34 sp) (w.heap.size + 1 + 1) (54 + s.size) (54 + s.size) 36 dp _ (by simp [set2_len, set4_len]) (by omega) HB4.out (by omega) (by omega) (by omega)).mono ?_
  rintro e w5 ⟨rfl, ht5, hb5⟩
  simp only [tn16, tn26, tn30, tn34, tn36, tn38] at hb5
  have HX5 : Hid (Tch (w.heap.size + 1 + 1) wm w5) := HX4.out.trans ht5
  have HB5 : Hid (Buf w5 (w.heap.size + 1 + 1) (set2 (set2 (set4 (set4 (set2 (((((List.replicate (54 + s.size) 0).set 12 8).set 14 69).set 22 64).set 23 p) 16 (40 + (s.size : Int))) 26 a) 30 b) 34 sp) 36 dp)) := hb5
  clear ht5 hb5
  have x0_5 : w5.cell? ⟨w.heap.size, 0, none⟩ = some (.int .u32 a) := by rw [HX5.out.cell (p := ⟨w.heap.size, 0, none⟩) (by simp; omega) (by simp; omega)]; exact XX0.out
  have x1_5 : w5.cell? ⟨w.heap.size, 1, none⟩ = some (.int .u32 b) := by rw [HX5.out.cell (p := ⟨w.heap.size, 1, none⟩) (by simp; omega) (by simp; omega)]; exact XX1.out
  have x2_5 : w5.cell? ⟨w.heap.size, 2, none⟩ = some (.int .u8 p) := by rw [HX5.out.cell (p := ⟨w.heap.size, 2, none⟩) (by simp; omega) (by simp; omega)]; exact XX2.out
  have x3_5 : w5.cell? ⟨w.heap.size, 3, none⟩ = some (.int .u16 sp) := by rw [HX5.out.cell (p := ⟨w.heap.size, 3, none⟩) (by simp; omega) (by simp; omega)]; exact XX3.out
  have x4_5 : w5.cell? ⟨w.heap.size, 4, none⟩ = some (.int .u16 dp) := by rw [HX5.out.cell (p := ⟨w.heap.size, 4, none⟩) (by simp; omega) (by simp; omega)]; exact XX4.out
  have x5_5 : w5.cell? ⟨w.heap.size, 5, none⟩ = some (.int .u8 f) := by rw [HX5.out.cell (p := ⟨w.heap.size, 5, none⟩) (by simp; omega) (by simp; omega)]; exact XX5.out
  clear x0_4 x1_4 x2_4 x3_4 x4_4 x5_4
  have c46 := HB5.out.cell 46 (by simp [set2_len, set4_len]; omega)
  have f46 := HB5.out.frozen 46
  have l46 : (46 : Int) < ((((54 + s.size) : Nat)) : Int) := by omega
  have c47 := HB5.out.cell 47 (by simp [set2_len, set4_len]; omega)
  have f47 := HB5.out.frozen 47
  have l47 : (47 : Int) < ((((54 + s.size) : Nat)) : Int) := by omega
  go_wp2_with fail
  go_loopw [9] (fun i wr => ∃ j : Nat, j ≤ s.size ∧ i = .int .i64 j ∧ Hid (Tch (w.heap.size + 1 + 1) wm wr) ∧ Hid (Buf wr (w.heap.size + 1 + 1) (payTo (((set2 (set2 (set4 (set4 (set2 (((((List.replicate (54 + s.size) 0).set 12 8).set 14 69).set 22 64).set 23 p) 16 (40 + (s.size : Int))) 26 a) 30 b) 34 sp) 36 dp).set 46 80).set 47 f) 54 (toL s) j))) (fun i _ => s.size - (intOf i).toNat)
  case atStart => exact ⟨0, Nat.zero_le _, rfl, ((HX5.out.set 46 _).set 47 _), ((HB5.out.set 46 80).set 47 f)⟩
  case round =>
    obtain ⟨j, hj, rfl, HTr, HBr⟩ := hrel
    have hlen : (payTo (((set2 (set2 (set4 (set4 (set2 (((((List.replicate (54 + s.size) 0).set 12 8).set 14 69).set 22 64).set 23 p) 16 (40 + (s.size : Int))) 26 a) 30 b) 34 sp) 36 dp).set 46 80).set 47 f) 54 (toL s) j).length = (54 + s.size) := by rw [payTo_len]; simp [set2_len, set4_len]
    by_cases hlt : j < s.size
    · have cj := HBr.out.cell (54 + j) (by omega)
      have fj := HBr.out.frozen (54 + j)
      have lj : (54 : Int) + (j : Int) < ((((54 + s.size) : Nat)) : Int) := by omega
      have ej := nth_at s j hlt
      have bj := nth_bd s j
      clear hlen
      go_wp2
      go_roundw
      case rel =>
        refine ⟨j + 1, by omega, by go_num, HTr.out.set _ _, ?_⟩
        show Buf _ _ ((payTo (((set2 (set2 (set4 (set4 (set2 (((((List.replicate (54 + s.size) 0).set 12 8).set 14 69).set 22 64).set 23 p) 16 (40 + (s.size : Int))) 26 a) 30 b) 34 sp) 36 dp).set 46 80).set 47 f) 54 (toL s) j).set (54 + j) ((toL s).getD j 0))
        rw [toL_nth]
        exact HBr.out.set (54 + j) (nth s j)
      case measure => simp [intOf]; omega
    · have e : j = s.size := by omega
      subst e
      have epay : payTo (((set2 (set2 (set4 (set4 (set2 (((((List.replicate (54 + s.size) 0).set 12 8).set 14 69).set 22 64).set 23 p) 16 (40 + (s.size : Int))) 26 a) 30 b) 34 sp) 36 dp).set 46 80).set 47 f) 54 (toL s) s.size = (((set2 (set2 (set4 (set4 (set2 (((((List.replicate (54 + s.size) 0).set 12 8).set 14 69).set 22 64).set 23 p) 16 (40 + (s.size : Int))) 26 a) 30 b) 34 sp) 36 dp).set 46 80).set 47 f).take 54 ++ toL s := by
        have h := payTo_all (((set2 (set2 (set4 (set4 (set2 (((((List.replicate (54 + s.size) 0).set 12 8).set 14 69).set 22 64).set 23 p) 16 (40 + (s.size : Int))) 26 a) 30 b) 34 sp) 36 dp).set 46 80).set 47 f) 54 (toL s) (by simp [set2_len, set4_len, toL_len])
        rw [toL_len] at h; exact h
      rw [epay] at HBr hlen
      obtain ⟨LL, hLL⟩ : ∃ LL, LL = (((set2 (set2 (set4 (set4 (set2 (((((List.replicate (54 + s.size) 0).set 12 8).set 14 69).set 22 64).set 23 p) 16 (40 + (s.size : Int))) 26 a) 30 b) 34 sp) 36 dp).set 46 80).set 47 f).take 54 ++ toL s := ⟨_, rfl⟩
      have HY : Hid (Byt ((((set2 (set2 (set4 (set4 (set2 (((((List.replicate (54 + s.size) 0).set 12 8).set 14 69).set 22 64).set 23 p) 16 (40 + (s.size : Int))) 26 a) 30 b) 34 sp) 36 dp).set 46 80).set 47 f).take 54 ++ toL s)) := Byt.append (fun x hx => (Byt.set (Byt.set (Byt.set2 (Byt.set2 (Byt.set4 (Byt.set4 (Byt.set2 (Byt.set (Byt.set (Byt.set (Byt.set (Byt.zeros _) 12 8 (by omega)) 14 69 (by omega)) 22 64 (by omega)) 23 p (by omega)) 16 (40 + (s.size : Int)) (by omega)) 26 a (by omega)) 30 b (by omega)) 34 sp (by omega)) 36 dp (by omega)) 46 80 (by omega)) 47 f (by omega)) x (List.mem_of_mem_take hx)) HYp.out
      rw [← hLL] at HBr hlen HY
      have HLL : Hid (LL = (((set2 (set2 (set4 (set4 (set2 (((((List.replicate (54 + s.size) 0).set 12 8).set 14 69).set 22 64).set 23 p) 16 (40 + (s.size : Int))) 26 a) 30 b) 34 sp) 36 dp).set 46 80).set 47 f).take 54 ++ toL s) := hLL
      have HL : Hid (LL.length = (54 + s.size)) := hlen
      clear hlen hLL epay
      have hcv := HBr.out.conv HY.out (54 + s.size) (54 + s.size) HL.out
      have bf := fold_bd (ofL LL)
      go_wp2_with fail
      refine (folded_any (ofL LL) _ (by rw [ofL_size, HL.out]; unfold maxLen; omega) (by rw [ofL_size, HL.out]; omega)).mono ?_
      rintro e w8 ⟨rfl, rfl⟩
      go_wp2_with fail
      refine (put2_any LL (w.heap.size + 1 + 1) (54 + s.size) (54 + s.size) 24 (65535 - fold (sumTo (ofL LL) 10)) _ HL.out (by omega) HBr.out (by omega) (by omega) (by omega)).mono ?_
      rintro e w9 ⟨rfl, ht9, hb9⟩
      simp only [show ((24 : Int)).toNat = 24 from rfl] at hb9
      have hcv9 := hb9.conv (HY.out.set2 24 _ (by omega)) (54 + s.size) (54 + s.size) (by rw [set2_len]; exact HL.out)
      have HT9 : Hid (Tch (w.heap.size + 1 + 1) wm w9) := HTr.out.trans ht9
      clear ht9 hb9 hcv
      go_wp2
      go_ret2
      exact ⟨ret_sb (by rw [HLL.out]), HW.out.trans (HT9.out.below (by omega) (by omega))⟩

set_option maxRecDepth 100000 in
set_option maxHeartbeats 3200000 in
theorem refBuild_udp (a b p sp dp f : Int) (s : ByteArray) (w : World) (hra : 0 ≤ a ∧ a ≤ 4294967295) (hrb : 0 ≤ b ∧ b ≤ 4294967295) (hrp : 0 ≤ p ∧ p ≤ 255) (hsp : 0 ≤ sp ∧ sp ≤ 65535) (hdp : 0 ≤ dp ∧ dp ≤ 65535) (hf : 0 ≤ f ∧ f ≤ 255) (hm : s.size ≤ 1000) (hmay : mayB p sp dp f = true) (p17 : p = 17) :
    Calls Tryd.prog 22 #[.agg #[.int .u32 a, .int .u32 b, .int .u8 p, .int .u16 sp, .int .u16 dp, .int .u8 f], .string s] w fun e w' => e = .returned (.tuple #[.string (ofL (set2 ((set2 (set2 (set2 (set4 (set4 (set2 (((((List.replicate (42 + s.size) 0).set 12 8).set 14 69).set 22 64).set 23 p) 16 (28 + (s.size : Int))) 26 a) 30 b) 34 sp) 36 dp) 38 (8 + (s.size : Int))).take 42 ++ toL s) 24 (65535 - fold (sumTo (ofL ((set2 (set2 (set2 (set4 (set4 (set2 (((((List.replicate (42 + s.size) 0).set 12 8).set 14 69).set 22 64).set 23 p) 16 (28 + (s.size : Int))) 26 a) 30 b) 34 sp) 36 dp) 38 (8 + (s.size : Int))).take 42 ++ toL s)) 10)))), .bool true]) ∧ Below w.heap.size w w' := by
  have q6 : (p == 6) = false := by simp [p17]
  have q17 : (p == 17) = true := by simp [p17]
  have HM : Hid (mayB p sp dp f = true) := hmay
  clear hmay p17
  have hm' : (s.size : Int) ≤ 1000 := by omega
  have HYp : Hid (Byt (toL s)) := toL_byt s
  obtain ⟨wm, hwm⟩ : ∃ wm, wm = ((w.alloc (.cells #[.int .u32 a, .int .u32 b, .int .u8 p, .int .u16 sp, .int .u16 dp, .int .u8 f] 28)).alloc (.cells #[.int .u32 a, .int .u32 b, .int .u8 p, .int .u16 sp, .int .u16 dp, .int .u8 f] 28)).alloc (.cells (madeCells #[.int .u8 0] (42 + s.size)) 5) := ⟨_, rfl⟩
  have hmk : (Instr.makeSlice 35 (.int .i64 (42 + (s.size : Int))) (.int .i64 (42 + (s.size : Int)))).run Tryd.prog ((w.alloc (.cells #[.int .u32 a, .int .u32 b, .int .u8 p, .int .u16 sp, .int .u16 dp, .int .u8 f] 28)).alloc (.cells #[.int .u32 a, .int .u32 b, .int .u8 p, .int .u16 sp, .int .u16 dp, .int .u8 f] 28)) = .ok (.slice (some ⟨w.heap.size + 1 + 1, 0, none⟩) (42 + s.size) (42 + s.size)) wm := by
    have h := run_make_row' (P := Tryd.prog) 35 5 (.int .u8 0) 1 Tryd.underlying35 Tryd.info8 rfl .i64 .i64 (42 + s.size) (by omega) (by omega) ((w.alloc (.cells #[.int .u32 a, .int .u32 b, .int .u8 p, .int .u16 sp, .int .u16 dp, .int .u8 f] 28)).alloc (.cells #[.int .u32 a, .int .u32 b, .int .u8 p, .int .u16 sp, .int .u16 dp, .int .u8 f] 28))
    rw [show ((((42 + s.size) : Nat)) : Int) = 42 + (s.size : Int) from by omega, ← hwm, show ((w.alloc (.cells #[.int .u32 a, .int .u32 b, .int .u8 p, .int .u16 sp, .int .u16 dp, .int .u8 f] 28)).alloc (.cells #[.int .u32 a, .int .u32 b, .int .u8 p, .int .u16 sp, .int .u16 dp, .int .u8 f] 28)).heap.size = w.heap.size + 1 + 1 from by simp] at h
    exact h
  have HB0 : Hid (Buf wm (w.heap.size + 1 + 1) (List.replicate (42 + s.size) 0)) := by
    have h := Buf.made ((w.alloc (.cells #[.int .u32 a, .int .u32 b, .int .u8 p, .int .u16 sp, .int .u16 dp, .int .u8 f] 28)).alloc (.cells #[.int .u32 a, .int .u32 b, .int .u8 p, .int .u16 sp, .int .u16 dp, .int .u8 f] 28)) (42 + s.size)
    rw [show ((w.alloc (.cells #[.int .u32 a, .int .u32 b, .int .u8 p, .int .u16 sp, .int .u16 dp, .int .u8 f] 28)).alloc (.cells #[.int .u32 a, .int .u32 b, .int .u8 p, .int .u16 sp, .int .u16 dp, .int .u8 f] 28)).heap.size = w.heap.size + 1 + 1 from by simp, ← hwm] at h
    exact h
  have HW : Hid (Below w.heap.size w wm) := by
    rw [hwm]; exact (((Below.refl _ _).alloc (Nat.le_refl _) _).alloc (by simp) _).alloc (by simp; omega) _
  have zm : wm.heap.size = w.heap.size + 1 + 1 + 1 := by rw [hwm]; simp
  have x0 : wm.cell? ⟨w.heap.size, 0, none⟩ = some (.int .u32 a) := by rw [hwm, World.cell?_alloc_lt _ _ _ (by simp; omega), World.cell?_alloc_lt _ _ _ (by simp), World.cell?_alloc_at _ _ _ _ rfl]; rfl
  have x1 : wm.cell? ⟨w.heap.size, 1, none⟩ = some (.int .u32 b) := by rw [hwm, World.cell?_alloc_lt _ _ _ (by simp; omega), World.cell?_alloc_lt _ _ _ (by simp), World.cell?_alloc_at _ _ _ _ rfl]; rfl
  have x2 : wm.cell? ⟨w.heap.size, 2, none⟩ = some (.int .u8 p) := by rw [hwm, World.cell?_alloc_lt _ _ _ (by simp; omega), World.cell?_alloc_lt _ _ _ (by simp), World.cell?_alloc_at _ _ _ _ rfl]; rfl
  have x3 : wm.cell? ⟨w.heap.size, 3, none⟩ = some (.int .u16 sp) := by rw [hwm, World.cell?_alloc_lt _ _ _ (by simp; omega), World.cell?_alloc_lt _ _ _ (by simp), World.cell?_alloc_at _ _ _ _ rfl]; rfl
  have x4 : wm.cell? ⟨w.heap.size, 4, none⟩ = some (.int .u16 dp) := by rw [hwm, World.cell?_alloc_lt _ _ _ (by simp; omega), World.cell?_alloc_lt _ _ _ (by simp), World.cell?_alloc_at _ _ _ _ rfl]; rfl
  have x5 : wm.cell? ⟨w.heap.size, 5, none⟩ = some (.int .u8 f) := by rw [hwm, World.cell?_alloc_lt _ _ _ (by simp; omega), World.cell?_alloc_lt _ _ _ (by simp), World.cell?_alloc_at _ _ _ _ rfl]; rfl
  clear hwm
  have XX0 : Hid (wm.cell? ⟨w.heap.size, 0, none⟩ = some (.int .u32 a)) := x0
  have XX1 : Hid (wm.cell? ⟨w.heap.size, 1, none⟩ = some (.int .u32 b)) := x1
  have XX2 : Hid (wm.cell? ⟨w.heap.size, 2, none⟩ = some (.int .u8 p)) := x2
  have XX3 : Hid (wm.cell? ⟨w.heap.size, 3, none⟩ = some (.int .u16 sp)) := x3
  have XX4 : Hid (wm.cell? ⟨w.heap.size, 4, none⟩ = some (.int .u16 dp)) := x4
  have XX5 : Hid (wm.cell? ⟨w.heap.size, 5, none⟩ = some (.int .u8 f)) := x5
  have c12 := HB0.out.cell 12 (by simp; omega)
  have f12 := HB0.out.frozen 12
  have l12 : (12 : Int) < ((((42 + s.size) : Nat)) : Int) := by omega
  have c14 := HB0.out.cell 14 (by simp; omega)
  have f14 := HB0.out.frozen 14
  have l14 : (14 : Int) < ((((42 + s.size) : Nat)) : Int) := by omega
  have c22 := HB0.out.cell 22 (by simp; omega)
  have f22 := HB0.out.frozen 22
  have l22 : (22 : Int) < ((((42 + s.size) : Nat)) : Int) := by omega
  have c23 := HB0.out.cell 23 (by simp; omega)
  have f23 := HB0.out.frozen 23
  have l23 : (23 : Int) < ((((42 + s.size) : Nat)) : Int) := by omega
  have gn : w.heap.size ≠ w.heap.size + 1 + 1 := by omega
  go_enter Tryd.func22, Tryd.ntmps22
  go_wp2_with ((go_at_call 32; refine (may_any _ _ _ _ _ _ _).mono ?_; rintro e w' ⟨rfl, rfl⟩; rw [HM.out]))
  have HB : Hid (Buf ((((wm.setCell ⟨(w.heap.size + 1 + 1), 12, none⟩ (.int .u8 8)).setCell ⟨(w.heap.size + 1 + 1), 14, none⟩ (.int .u8 69)).setCell ⟨(w.heap.size + 1 + 1), 22, none⟩ (.int .u8 64)).setCell ⟨(w.heap.size + 1 + 1), 23, none⟩ (.int .u8 p)) (w.heap.size + 1 + 1) (((((List.replicate (42 + s.size) 0).set 12 8).set 14 69).set 22 64).set 23 p)) := (((HB0.out.set 12 8).set 14 69).set 22 64).set 23 p
  have HX : Hid (Tch (w.heap.size + 1 + 1) wm ((((wm.setCell ⟨(w.heap.size + 1 + 1), 12, none⟩ (.int .u8 8)).setCell ⟨(w.heap.size + 1 + 1), 14, none⟩ (.int .u8 69)).setCell ⟨(w.heap.size + 1 + 1), 22, none⟩ (.int .u8 64)).setCell ⟨(w.heap.size + 1 + 1), 23, none⟩ (.int .u8 p))) := ((((Tch.refl _ _).set _ _).set _ _).set _ _).set _ _
  refine (put2_any (((((List.replicate (42 + s.size) 0).set 12 8).set 14 69).set 22 64).set 23 p) (w.heap.size + 1 + 1) (42 + s.size) (42 + s.size) 16 (28 + (s.size : Int)) _ (by simp [set2_len, set4_len]) (by omega) HB.out (by omega) (by omega) (by omega)).mono ?_
  rintro e w1 ⟨rfl, ht1, hb1⟩
  simp only [tn16, tn26, tn30, tn34, tn36, tn38] at hb1
  have HX1 : Hid (Tch (w.heap.size + 1 + 1) wm w1) := HX.out.trans ht1
  have HB1 : Hid (Buf w1 (w.heap.size + 1 + 1) (set2 (((((List.replicate (42 + s.size) 0).set 12 8).set 14 69).set 22 64).set 23 p) 16 (28 + (s.size : Int)))) := hb1
  clear ht1 hb1
  have x0_1 : w1.cell? ⟨w.heap.size, 0, none⟩ = some (.int .u32 a) := by rw [HX1.out.cell (p := ⟨w.heap.size, 0, none⟩) (by simp; omega) (by simp; omega)]; exact XX0.out
  have x1_1 : w1.cell? ⟨w.heap.size, 1, none⟩ = some (.int .u32 b) := by rw [HX1.out.cell (p := ⟨w.heap.size, 1, none⟩) (by simp; omega) (by simp; omega)]; exact XX1.out
  have x2_1 : w1.cell? ⟨w.heap.size, 2, none⟩ = some (.int .u8 p) := by rw [HX1.out.cell (p := ⟨w.heap.size, 2, none⟩) (by simp; omega) (by simp; omega)]; exact XX2.out
  have x3_1 : w1.cell? ⟨w.heap.size, 3, none⟩ = some (.int .u16 sp) := by rw [HX1.out.cell (p := ⟨w.heap.size, 3, none⟩) (by simp; omega) (by simp; omega)]; exact XX3.out
  have x4_1 : w1.cell? ⟨w.heap.size, 4, none⟩ = some (.int .u16 dp) := by rw [HX1.out.cell (p := ⟨w.heap.size, 4, none⟩) (by simp; omega) (by simp; omega)]; exact XX4.out
  have x5_1 : w1.cell? ⟨w.heap.size, 5, none⟩ = some (.int .u8 f) := by rw [HX1.out.cell (p := ⟨w.heap.size, 5, none⟩) (by simp; omega) (by simp; omega)]; exact XX5.out
  clear x0 x1 x2 x3 x4 x5 c12 f12 c14 f14 c22 f22 c23 f23
  go_wp2_with fail
  refine (put4_any (set2 (((((List.replicate (42 + s.size) 0).set 12 8).set 14 69).set 22 64).set 23 p) 16 (28 + (s.size : Int))) (w.heap.size + 1 + 1) (42 + s.size) (42 + s.size) 26 a _ (by simp [set2_len, set4_len]) (by omega) HB1.out (by omega) (by omega) (by omega)).mono ?_
  rintro e w2 ⟨rfl, ht2, hb2⟩
  simp only [tn16, tn26, tn30, tn34, tn36, tn38] at hb2
  have HX2 : Hid (Tch (w.heap.size + 1 + 1) wm w2) := HX1.out.trans ht2
  have HB2 : Hid (Buf w2 (w.heap.size + 1 + 1) (set4 (set2 (((((List.replicate (42 + s.size) 0).set 12 8).set 14 69).set 22 64).set 23 p) 16 (28 + (s.size : Int))) 26 a)) := hb2
  clear ht2 hb2
  have x0_2 : w2.cell? ⟨w.heap.size, 0, none⟩ = some (.int .u32 a) := by rw [HX2.out.cell (p := ⟨w.heap.size, 0, none⟩) (by simp; omega) (by simp; omega)]; exact XX0.out
  have x1_2 : w2.cell? ⟨w.heap.size, 1, none⟩ = some (.int .u32 b) := by rw [HX2.out.cell (p := ⟨w.heap.size, 1, none⟩) (by simp; omega) (by simp; omega)]; exact XX1.out
  have x2_2 : w2.cell? ⟨w.heap.size, 2, none⟩ = some (.int .u8 p) := by rw [HX2.out.cell (p := ⟨w.heap.size, 2, none⟩) (by simp; omega) (by simp; omega)]; exact XX2.out
  have x3_2 : w2.cell? ⟨w.heap.size, 3, none⟩ = some (.int .u16 sp) := by rw [HX2.out.cell (p := ⟨w.heap.size, 3, none⟩) (by simp; omega) (by simp; omega)]; exact XX3.out
  have x4_2 : w2.cell? ⟨w.heap.size, 4, none⟩ = some (.int .u16 dp) := by rw [HX2.out.cell (p := ⟨w.heap.size, 4, none⟩) (by simp; omega) (by simp; omega)]; exact XX4.out
  have x5_2 : w2.cell? ⟨w.heap.size, 5, none⟩ = some (.int .u8 f) := by rw [HX2.out.cell (p := ⟨w.heap.size, 5, none⟩) (by simp; omega) (by simp; omega)]; exact XX5.out
  clear x0_1 x1_1 x2_1 x3_1 x4_1 x5_1
  go_wp2_with fail
  refine (put4_any (set4 (set2 (((((List.replicate (42 + s.size) 0).set 12 8).set 14 69).set 22 64).set 23 p) 16 (28 + (s.size : Int))) 26 a) (w.heap.size + 1 + 1) (42 + s.size) (42 + s.size) 30 b _ (by simp [set2_len, set4_len]) (by omega) HB2.out (by omega) (by omega) (by omega)).mono ?_
  rintro e w3 ⟨rfl, ht3, hb3⟩
  simp only [tn16, tn26, tn30, tn34, tn36, tn38] at hb3
  have HX3 : Hid (Tch (w.heap.size + 1 + 1) wm w3) := HX2.out.trans ht3
  have HB3 : Hid (Buf w3 (w.heap.size + 1 + 1) (set4 (set4 (set2 (((((List.replicate (42 + s.size) 0).set 12 8).set 14 69).set 22 64).set 23 p) 16 (28 + (s.size : Int))) 26 a) 30 b)) := hb3
  clear ht3 hb3
  have x0_3 : w3.cell? ⟨w.heap.size, 0, none⟩ = some (.int .u32 a) := by rw [HX3.out.cell (p := ⟨w.heap.size, 0, none⟩) (by simp; omega) (by simp; omega)]; exact XX0.out
  have x1_3 : w3.cell? ⟨w.heap.size, 1, none⟩ = some (.int .u32 b) := by rw [HX3.out.cell (p := ⟨w.heap.size, 1, none⟩) (by simp; omega) (by simp; omega)]; exact XX1.out
  have x2_3 : w3.cell? ⟨w.heap.size, 2, none⟩ = some (.int .u8 p) := by rw [HX3.out.cell (p := ⟨w.heap.size, 2, none⟩) (by simp; omega) (by simp; omega)]; exact XX2.out
  have x3_3 : w3.cell? ⟨w.heap.size, 3, none⟩ = some (.int .u16 sp) := by rw [HX3.out.cell (p := ⟨w.heap.size, 3, none⟩) (by simp; omega) (by simp; omega)]; exact XX3.out
  have x4_3 : w3.cell? ⟨w.heap.size, 4, none⟩ = some (.int .u16 dp) := by rw [HX3.out.cell (p := ⟨w.heap.size, 4, none⟩) (by simp; omega) (by simp; omega)]; exact XX4.out
  have x5_3 : w3.cell? ⟨w.heap.size, 5, none⟩ = some (.int .u8 f) := by rw [HX3.out.cell (p := ⟨w.heap.size, 5, none⟩) (by simp; omega) (by simp; omega)]; exact XX5.out
  clear x0_2 x1_2 x2_2 x3_2 x4_2 x5_2
  go_wp2_with fail
  refine (put2_any (set4 (set4 (set2 (((((List.replicate (42 + s.size) 0).set 12 8).set 14 69).set 22 64).set 23 p) 16 (28 + (s.size : Int))) 26 a) 30 b) (w.heap.size + 1 + 1) (42 + s.size) (42 + s.size) 34 sp _ (by simp [set2_len, set4_len]) (by omega) HB3.out (by omega) (by omega) (by omega)).mono ?_
  rintro e w4 ⟨rfl, ht4, hb4⟩
  simp only [tn16, tn26, tn30, tn34, tn36, tn38] at hb4
  have HX4 : Hid (Tch (w.heap.size + 1 + 1) wm w4) := HX3.out.trans ht4
  have HB4 : Hid (Buf w4 (w.heap.size + 1 + 1) (set2 (set4 (set4 (set2 (((((List.replicate (42 + s.size) 0).set 12 8).set 14 69).set 22 64).set 23 p) 16 (28 + (s.size : Int))) 26 a) 30 b) 34 sp)) := hb4
  clear ht4 hb4
  have x0_4 : w4.cell? ⟨w.heap.size, 0, none⟩ = some (.int .u32 a) := by rw [HX4.out.cell (p := ⟨w.heap.size, 0, none⟩) (by simp; omega) (by simp; omega)]; exact XX0.out
  have x1_4 : w4.cell? ⟨w.heap.size, 1, none⟩ = some (.int .u32 b) := by rw [HX4.out.cell (p := ⟨w.heap.size, 1, none⟩) (by simp; omega) (by simp; omega)]; exact XX1.out
  have x2_4 : w4.cell? ⟨w.heap.size, 2, none⟩ = some (.int .u8 p) := by rw [HX4.out.cell (p := ⟨w.heap.size, 2, none⟩) (by simp; omega) (by simp; omega)]; exact XX2.out
  have x3_4 : w4.cell? ⟨w.heap.size, 3, none⟩ = some (.int .u16 sp) := by rw [HX4.out.cell (p := ⟨w.heap.size, 3, none⟩) (by simp; omega) (by simp; omega)]; exact XX3.out
  have x4_4 : w4.cell? ⟨w.heap.size, 4, none⟩ = some (.int .u16 dp) := by rw [HX4.out.cell (p := ⟨w.heap.size, 4, none⟩) (by simp; omega) (by simp; omega)]; exact XX4.out
  have x5_4 : w4.cell? ⟨w.heap.size, 5, none⟩ = some (.int .u8 f) := by rw [HX4.out.cell (p := ⟨w.heap.size, 5, none⟩) (by simp; omega) (by simp; omega)]; exact XX5.out
  clear x0_3 x1_3 x2_3 x3_3 x4_3 x5_3
  go_wp2_with fail
  refine (put2_any (set2 (set4 (set4 (set2 (((((List.replicate (42 + s.size) 0).set 12 8).set 14 69).set 22 64).set 23 p) 16 (28 + (s.size : Int))) 26 a) 30 b) 34 sp) (w.heap.size + 1 + 1) (42 + s.size) (42 + s.size) 36 dp _ (by simp [set2_len, set4_len]) (by omega) HB4.out (by omega) (by omega) (by omega)).mono ?_
  rintro e w5 ⟨rfl, ht5, hb5⟩
  simp only [tn16, tn26, tn30, tn34, tn36, tn38] at hb5
  have HX5 : Hid (Tch (w.heap.size + 1 + 1) wm w5) := HX4.out.trans ht5
  have HB5 : Hid (Buf w5 (w.heap.size + 1 + 1) (set2 (set2 (set4 (set4 (set2 (((((List.replicate (42 + s.size) 0).set 12 8).set 14 69).set 22 64).set 23 p) 16 (28 + (s.size : Int))) 26 a) 30 b) 34 sp) 36 dp)) := hb5
  clear ht5 hb5
  have x0_5 : w5.cell? ⟨w.heap.size, 0, none⟩ = some (.int .u32 a) := by rw [HX5.out.cell (p := ⟨w.heap.size, 0, none⟩) (by simp; omega) (by simp; omega)]; exact XX0.out
  have x1_5 : w5.cell? ⟨w.heap.size, 1, none⟩ = some (.int .u32 b) := by rw [HX5.out.cell (p := ⟨w.heap.size, 1, none⟩) (by simp; omega) (by simp; omega)]; exact XX1.out
  have x2_5 : w5.cell? ⟨w.heap.size, 2, none⟩ = some (.int .u8 p) := by rw [HX5.out.cell (p := ⟨w.heap.size, 2, none⟩) (by simp; omega) (by simp; omega)]; exact XX2.out
  have x3_5 : w5.cell? ⟨w.heap.size, 3, none⟩ = some (.int .u16 sp) := by rw [HX5.out.cell (p := ⟨w.heap.size, 3, none⟩) (by simp; omega) (by simp; omega)]; exact XX3.out
  have x4_5 : w5.cell? ⟨w.heap.size, 4, none⟩ = some (.int .u16 dp) := by rw [HX5.out.cell (p := ⟨w.heap.size, 4, none⟩) (by simp; omega) (by simp; omega)]; exact XX4.out
  have x5_5 : w5.cell? ⟨w.heap.size, 5, none⟩ = some (.int .u8 f) := by rw [HX5.out.cell (p := ⟨w.heap.size, 5, none⟩) (by simp; omega) (by simp; omega)]; exact XX5.out
  clear x0_4 x1_4 x2_4 x3_4 x4_4 x5_4
  go_wp2_with fail
  refine (put2_any (set2 (set2 (set4 (set4 (set2 (((((List.replicate (42 + s.size) 0).set 12 8).set 14 69).set 22 64).set 23 p) 16 (28 + (s.size : Int))) 26 a) 30 b) 34 sp) 36 dp) (w.heap.size + 1 + 1) (42 + s.size) (42 + s.size) 38 (8 + (s.size : Int)) _ (by simp [set2_len, set4_len]) (by omega) HB5.out (by omega) (by omega) (by omega)).mono ?_
  rintro e w6 ⟨rfl, ht6, hb6⟩
  simp only [tn16, tn26, tn30, tn34, tn36, tn38] at hb6
  have HX6 : Hid (Tch (w.heap.size + 1 + 1) wm w6) := HX5.out.trans ht6
  have HB6 : Hid (Buf w6 (w.heap.size + 1 + 1) (set2 (set2 (set2 (set4 (set4 (set2 (((((List.replicate (42 + s.size) 0).set 12 8).set 14 69).set 22 64).set 23 p) 16 (28 + (s.size : Int))) 26 a) 30 b) 34 sp) 36 dp) 38 (8 + (s.size : Int)))) := hb6
  clear ht6 hb6
  have x0_6 : w6.cell? ⟨w.heap.size, 0, none⟩ = some (.int .u32 a) := by rw [HX6.out.cell (p := ⟨w.heap.size, 0, none⟩) (by simp; omega) (by simp; omega)]; exact XX0.out
  have x1_6 : w6.cell? ⟨w.heap.size, 1, none⟩ = some (.int .u32 b) := by rw [HX6.out.cell (p := ⟨w.heap.size, 1, none⟩) (by simp; omega) (by simp; omega)]; exact XX1.out
  have x2_6 : w6.cell? ⟨w.heap.size, 2, none⟩ = some (.int .u8 p) := by rw [HX6.out.cell (p := ⟨w.heap.size, 2, none⟩) (by simp; omega) (by simp; omega)]; exact XX2.out
  have x3_6 : w6.cell? ⟨w.heap.size, 3, none⟩ = some (.int .u16 sp) := by rw [HX6.out.cell (p := ⟨w.heap.size, 3, none⟩) (by simp; omega) (by simp; omega)]; exact XX3.out
  have x4_6 : w6.cell? ⟨w.heap.size, 4, none⟩ = some (.int .u16 dp) := by rw [HX6.out.cell (p := ⟨w.heap.size, 4, none⟩) (by simp; omega) (by simp; omega)]; exact XX4.out
  have x5_6 : w6.cell? ⟨w.heap.size, 5, none⟩ = some (.int .u8 f) := by rw [HX6.out.cell (p := ⟨w.heap.size, 5, none⟩) (by simp; omega) (by simp; omega)]; exact XX5.out
  clear x0_5 x1_5 x2_5 x3_5 x4_5 x5_5
  go_wp2_with fail
  go_loopw [9] (fun i wr => ∃ j : Nat, j ≤ s.size ∧ i = .int .i64 j ∧ Hid (Tch (w.heap.size + 1 + 1) wm wr) ∧ Hid (Buf wr (w.heap.size + 1 + 1) (payTo (set2 (set2 (set2 (set4 (set4 (set2 (((((List.replicate (42 + s.size) 0).set 12 8).set 14 69).set 22 64).set 23 p) 16 (28 + (s.size : Int))) 26 a) 30 b) 34 sp) 36 dp) 38 (8 + (s.size : Int))) 42 (toL s) j))) (fun i _ => s.size - (intOf i).toNat)
  case atStart => exact ⟨0, Nat.zero_le _, rfl, HX6.out, HB6.out⟩
  case round =>
    obtain ⟨j, hj, rfl, HTr, HBr⟩ := hrel
    have hlen : (payTo (set2 (set2 (set2 (set4 (set4 (set2 (((((List.replicate (42 + s.size) 0).set 12 8).set 14 69).set 22 64).set 23 p) 16 (28 + (s.size : Int))) 26 a) 30 b) 34 sp) 36 dp) 38 (8 + (s.size : Int))) 42 (toL s) j).length = (42 + s.size) := by rw [payTo_len]; simp [set2_len, set4_len]
    by_cases hlt : j < s.size
    · have cj := HBr.out.cell (42 + j) (by omega)
      have fj := HBr.out.frozen (42 + j)
      have lj : (42 : Int) + (j : Int) < ((((42 + s.size) : Nat)) : Int) := by omega
      have ej := nth_at s j hlt
      have bj := nth_bd s j
      clear hlen
      go_wp2
      go_roundw
      case rel =>
        refine ⟨j + 1, by omega, by go_num, HTr.out.set _ _, ?_⟩
        show Buf _ _ ((payTo (set2 (set2 (set2 (set4 (set4 (set2 (((((List.replicate (42 + s.size) 0).set 12 8).set 14 69).set 22 64).set 23 p) 16 (28 + (s.size : Int))) 26 a) 30 b) 34 sp) 36 dp) 38 (8 + (s.size : Int))) 42 (toL s) j).set (42 + j) ((toL s).getD j 0))
        rw [toL_nth]
        exact HBr.out.set (42 + j) (nth s j)
      case measure => simp [intOf]; omega
    · have e : j = s.size := by omega
      subst e
      have epay : payTo (set2 (set2 (set2 (set4 (set4 (set2 (((((List.replicate (42 + s.size) 0).set 12 8).set 14 69).set 22 64).set 23 p) 16 (28 + (s.size : Int))) 26 a) 30 b) 34 sp) 36 dp) 38 (8 + (s.size : Int))) 42 (toL s) s.size = (set2 (set2 (set2 (set4 (set4 (set2 (((((List.replicate (42 + s.size) 0).set 12 8).set 14 69).set 22 64).set 23 p) 16 (28 + (s.size : Int))) 26 a) 30 b) 34 sp) 36 dp) 38 (8 + (s.size : Int))).take 42 ++ toL s := by
        have h := payTo_all (set2 (set2 (set2 (set4 (set4 (set2 (((((List.replicate (42 + s.size) 0).set 12 8).set 14 69).set 22 64).set 23 p) 16 (28 + (s.size : Int))) 26 a) 30 b) 34 sp) 36 dp) 38 (8 + (s.size : Int))) 42 (toL s) (by simp [set2_len, set4_len, toL_len])
        rw [toL_len] at h; exact h
      rw [epay] at HBr hlen
      obtain ⟨LL, hLL⟩ : ∃ LL, LL = (set2 (set2 (set2 (set4 (set4 (set2 (((((List.replicate (42 + s.size) 0).set 12 8).set 14 69).set 22 64).set 23 p) 16 (28 + (s.size : Int))) 26 a) 30 b) 34 sp) 36 dp) 38 (8 + (s.size : Int))).take 42 ++ toL s := ⟨_, rfl⟩
      have HY : Hid (Byt ((set2 (set2 (set2 (set4 (set4 (set2 (((((List.replicate (42 + s.size) 0).set 12 8).set 14 69).set 22 64).set 23 p) 16 (28 + (s.size : Int))) 26 a) 30 b) 34 sp) 36 dp) 38 (8 + (s.size : Int))).take 42 ++ toL s)) := Byt.append (fun x hx => (Byt.set2 (Byt.set2 (Byt.set2 (Byt.set4 (Byt.set4 (Byt.set2 (Byt.set (Byt.set (Byt.set (Byt.set (Byt.zeros _) 12 8 (by omega)) 14 69 (by omega)) 22 64 (by omega)) 23 p (by omega)) 16 (28 + (s.size : Int)) (by omega)) 26 a (by omega)) 30 b (by omega)) 34 sp (by omega)) 36 dp (by omega)) 38 (8 + (s.size : Int)) (by omega)) x (List.mem_of_mem_take hx)) HYp.out
      rw [← hLL] at HBr hlen HY
      have HLL : Hid (LL = (set2 (set2 (set2 (set4 (set4 (set2 (((((List.replicate (42 + s.size) 0).set 12 8).set 14 69).set 22 64).set 23 p) 16 (28 + (s.size : Int))) 26 a) 30 b) 34 sp) 36 dp) 38 (8 + (s.size : Int))).take 42 ++ toL s) := hLL
      have HL : Hid (LL.length = (42 + s.size)) := hlen
      clear hlen hLL epay
      have hcv := HBr.out.conv HY.out (42 + s.size) (42 + s.size) HL.out
      have bf := fold_bd (ofL LL)
      go_wp2_with fail
      refine (folded_any (ofL LL) _ (by rw [ofL_size, HL.out]; unfold maxLen; omega) (by rw [ofL_size, HL.out]; omega)).mono ?_
      rintro e w8 ⟨rfl, rfl⟩
      go_wp2_with fail
      refine (put2_any LL (w.heap.size + 1 + 1) (42 + s.size) (42 + s.size) 24 (65535 - fold (sumTo (ofL LL) 10)) _ HL.out (by omega) HBr.out (by omega) (by omega) (by omega)).mono ?_
      rintro e w9 ⟨rfl, ht9, hb9⟩
      simp only [show ((24 : Int)).toNat = 24 from rfl] at hb9
      have hcv9 := hb9.conv (HY.out.set2 24 _ (by omega)) (42 + s.size) (42 + s.size) (by rw [set2_len]; exact HL.out)
      have HT9 : Hid (Tch (w.heap.size + 1 + 1) wm w9) := HTr.out.trans ht9
      clear ht9 hb9 hcv
      go_wp2
      go_ret2
      exact ⟨ret_sb (by rw [HLL.out]), HW.out.trans (HT9.out.below (by omega) (by omega))⟩

set_option maxRecDepth 100000 in
set_option maxHeartbeats 3200000 in
theorem refBuild_icmp (a b p sp dp f : Int) (s : ByteArray) (w : World) (hra : 0 ≤ a ∧ a ≤ 4294967295) (hrb : 0 ≤ b ∧ b ≤ 4294967295) (hrp : 0 ≤ p ∧ p ≤ 255) (hsp : 0 ≤ sp ∧ sp ≤ 65535) (hdp : 0 ≤ dp ∧ dp ≤ 65535) (hf : 0 ≤ f ∧ f ≤ 255) (hm : s.size ≤ 1000) (hmay : mayB p sp dp f = true) (p1 : p = 1) :
    Calls Tryd.prog 22 #[.agg #[.int .u32 a, .int .u32 b, .int .u8 p, .int .u16 sp, .int .u16 dp, .int .u8 f], .string s] w fun e w' => e = .returned (.tuple #[.string (ofL (set2 ((set2 ((set4 (set4 (set2 (((((List.replicate (42 + s.size) 0).set 12 8).set 14 69).set 22 64).set 23 p) 16 (28 + (s.size : Int))) 26 a) 30 b).set 34 f) 38 sp).take 42 ++ toL s) 24 (65535 - fold (sumTo (ofL ((set2 ((set4 (set4 (set2 (((((List.replicate (42 + s.size) 0).set 12 8).set 14 69).set 22 64).set 23 p) 16 (28 + (s.size : Int))) 26 a) 30 b).set 34 f) 38 sp).take 42 ++ toL s)) 10)))), .bool true]) ∧ Below w.heap.size w w' := by
  have q6 : (p == 6) = false := by simp [p1]
  have q17 : (p == 17) = false := by simp [p1]
  have q1 : (p == 1) = true := by simp [p1]
  have HM : Hid (mayB p sp dp f = true) := hmay
  clear hmay p1
  have hm' : (s.size : Int) ≤ 1000 := by omega
  have HYp : Hid (Byt (toL s)) := toL_byt s
  obtain ⟨wm, hwm⟩ : ∃ wm, wm = ((w.alloc (.cells #[.int .u32 a, .int .u32 b, .int .u8 p, .int .u16 sp, .int .u16 dp, .int .u8 f] 28)).alloc (.cells #[.int .u32 a, .int .u32 b, .int .u8 p, .int .u16 sp, .int .u16 dp, .int .u8 f] 28)).alloc (.cells (madeCells #[.int .u8 0] (42 + s.size)) 5) := ⟨_, rfl⟩
  have hmk : (Instr.makeSlice 35 (.int .i64 (42 + (s.size : Int))) (.int .i64 (42 + (s.size : Int)))).run Tryd.prog ((w.alloc (.cells #[.int .u32 a, .int .u32 b, .int .u8 p, .int .u16 sp, .int .u16 dp, .int .u8 f] 28)).alloc (.cells #[.int .u32 a, .int .u32 b, .int .u8 p, .int .u16 sp, .int .u16 dp, .int .u8 f] 28)) = .ok (.slice (some ⟨w.heap.size + 1 + 1, 0, none⟩) (42 + s.size) (42 + s.size)) wm := by
    have h := run_make_row' (P := Tryd.prog) 35 5 (.int .u8 0) 1 Tryd.underlying35 Tryd.info8 rfl .i64 .i64 (42 + s.size) (by omega) (by omega) ((w.alloc (.cells #[.int .u32 a, .int .u32 b, .int .u8 p, .int .u16 sp, .int .u16 dp, .int .u8 f] 28)).alloc (.cells #[.int .u32 a, .int .u32 b, .int .u8 p, .int .u16 sp, .int .u16 dp, .int .u8 f] 28))
    rw [show ((((42 + s.size) : Nat)) : Int) = 42 + (s.size : Int) from by omega, ← hwm, show ((w.alloc (.cells #[.int .u32 a, .int .u32 b, .int .u8 p, .int .u16 sp, .int .u16 dp, .int .u8 f] 28)).alloc (.cells #[.int .u32 a, .int .u32 b, .int .u8 p, .int .u16 sp, .int .u16 dp, .int .u8 f] 28)).heap.size = w.heap.size + 1 + 1 from by simp] at h
    exact h
  have HB0 : Hid (Buf wm (w.heap.size + 1 + 1) (List.replicate (42 + s.size) 0)) := by
    have h := Buf.made ((w.alloc (.cells #[.int .u32 a, .int .u32 b, .int .u8 p, .int .u16 sp, .int .u16 dp, .int .u8 f] 28)).alloc (.cells #[.int .u32 a, .int .u32 b, .int .u8 p, .int .u16 sp, .int .u16 dp, .int .u8 f] 28)) (42 + s.size)
    rw [show ((w.alloc (.cells #[.int .u32 a, .int .u32 b, .int .u8 p, .int .u16 sp, .int .u16 dp, .int .u8 f] 28)).alloc (.cells #[.int .u32 a, .int .u32 b, .int .u8 p, .int .u16 sp, .int .u16 dp, .int .u8 f] 28)).heap.size = w.heap.size + 1 + 1 from by simp, ← hwm] at h
    exact h
  have HW : Hid (Below w.heap.size w wm) := by
    rw [hwm]; exact (((Below.refl _ _).alloc (Nat.le_refl _) _).alloc (by simp) _).alloc (by simp; omega) _
  have zm : wm.heap.size = w.heap.size + 1 + 1 + 1 := by rw [hwm]; simp
  have x0 : wm.cell? ⟨w.heap.size, 0, none⟩ = some (.int .u32 a) := by rw [hwm, World.cell?_alloc_lt _ _ _ (by simp; omega), World.cell?_alloc_lt _ _ _ (by simp), World.cell?_alloc_at _ _ _ _ rfl]; rfl
  have x1 : wm.cell? ⟨w.heap.size, 1, none⟩ = some (.int .u32 b) := by rw [hwm, World.cell?_alloc_lt _ _ _ (by simp; omega), World.cell?_alloc_lt _ _ _ (by simp), World.cell?_alloc_at _ _ _ _ rfl]; rfl
  have x2 : wm.cell? ⟨w.heap.size, 2, none⟩ = some (.int .u8 p) := by rw [hwm, World.cell?_alloc_lt _ _ _ (by simp; omega), World.cell?_alloc_lt _ _ _ (by simp), World.cell?_alloc_at _ _ _ _ rfl]; rfl
  have x3 : wm.cell? ⟨w.heap.size, 3, none⟩ = some (.int .u16 sp) := by rw [hwm, World.cell?_alloc_lt _ _ _ (by simp; omega), World.cell?_alloc_lt _ _ _ (by simp), World.cell?_alloc_at _ _ _ _ rfl]; rfl
  have x4 : wm.cell? ⟨w.heap.size, 4, none⟩ = some (.int .u16 dp) := by rw [hwm, World.cell?_alloc_lt _ _ _ (by simp; omega), World.cell?_alloc_lt _ _ _ (by simp), World.cell?_alloc_at _ _ _ _ rfl]; rfl
  have x5 : wm.cell? ⟨w.heap.size, 5, none⟩ = some (.int .u8 f) := by rw [hwm, World.cell?_alloc_lt _ _ _ (by simp; omega), World.cell?_alloc_lt _ _ _ (by simp), World.cell?_alloc_at _ _ _ _ rfl]; rfl
  clear hwm
  have XX0 : Hid (wm.cell? ⟨w.heap.size, 0, none⟩ = some (.int .u32 a)) := x0
  have XX1 : Hid (wm.cell? ⟨w.heap.size, 1, none⟩ = some (.int .u32 b)) := x1
  have XX2 : Hid (wm.cell? ⟨w.heap.size, 2, none⟩ = some (.int .u8 p)) := x2
  have XX3 : Hid (wm.cell? ⟨w.heap.size, 3, none⟩ = some (.int .u16 sp)) := x3
  have XX4 : Hid (wm.cell? ⟨w.heap.size, 4, none⟩ = some (.int .u16 dp)) := x4
  have XX5 : Hid (wm.cell? ⟨w.heap.size, 5, none⟩ = some (.int .u8 f)) := x5
  have c12 := HB0.out.cell 12 (by simp; omega)
  have f12 := HB0.out.frozen 12
  have l12 : (12 : Int) < ((((42 + s.size) : Nat)) : Int) := by omega
  have c14 := HB0.out.cell 14 (by simp; omega)
  have f14 := HB0.out.frozen 14
  have l14 : (14 : Int) < ((((42 + s.size) : Nat)) : Int) := by omega
  have c22 := HB0.out.cell 22 (by simp; omega)
  have f22 := HB0.out.frozen 22
  have l22 : (22 : Int) < ((((42 + s.size) : Nat)) : Int) := by omega
  have c23 := HB0.out.cell 23 (by simp; omega)
  have f23 := HB0.out.frozen 23
  have l23 : (23 : Int) < ((((42 + s.size) : Nat)) : Int) := by omega
  have gn : w.heap.size ≠ w.heap.size + 1 + 1 := by omega
  go_enter Tryd.func22, Tryd.ntmps22
  go_wp2_with ((go_at_call 32; refine (may_any _ _ _ _ _ _ _).mono ?_; rintro e w' ⟨rfl, rfl⟩; rw [HM.out]))
  have HB : Hid (Buf ((((wm.setCell ⟨(w.heap.size + 1 + 1), 12, none⟩ (.int .u8 8)).setCell ⟨(w.heap.size + 1 + 1), 14, none⟩ (.int .u8 69)).setCell ⟨(w.heap.size + 1 + 1), 22, none⟩ (.int .u8 64)).setCell ⟨(w.heap.size + 1 + 1), 23, none⟩ (.int .u8 p)) (w.heap.size + 1 + 1) (((((List.replicate (42 + s.size) 0).set 12 8).set 14 69).set 22 64).set 23 p)) := (((HB0.out.set 12 8).set 14 69).set 22 64).set 23 p
  have HX : Hid (Tch (w.heap.size + 1 + 1) wm ((((wm.setCell ⟨(w.heap.size + 1 + 1), 12, none⟩ (.int .u8 8)).setCell ⟨(w.heap.size + 1 + 1), 14, none⟩ (.int .u8 69)).setCell ⟨(w.heap.size + 1 + 1), 22, none⟩ (.int .u8 64)).setCell ⟨(w.heap.size + 1 + 1), 23, none⟩ (.int .u8 p))) := ((((Tch.refl _ _).set _ _).set _ _).set _ _).set _ _
  refine (put2_any (((((List.replicate (42 + s.size) 0).set 12 8).set 14 69).set 22 64).set 23 p) (w.heap.size + 1 + 1) (42 + s.size) (42 + s.size) 16 (28 + (s.size : Int)) _ (by simp [set2_len, set4_len]) (by omega) HB.out (by omega) (by omega) (by omega)).mono ?_
  rintro e w1 ⟨rfl, ht1, hb1⟩
  simp only [tn16, tn26, tn30, tn34, tn36, tn38] at hb1
  have HX1 : Hid (Tch (w.heap.size + 1 + 1) wm w1) := HX.out.trans ht1
  have HB1 : Hid (Buf w1 (w.heap.size + 1 + 1) (set2 (((((List.replicate (42 + s.size) 0).set 12 8).set 14 69).set 22 64).set 23 p) 16 (28 + (s.size : Int)))) := hb1
  clear ht1 hb1
  have x0_1 : w1.cell? ⟨w.heap.size, 0, none⟩ = some (.int .u32 a) := by rw [HX1.out.cell (p := ⟨w.heap.size, 0, none⟩) (by simp; omega) (by simp; omega)]; exact XX0.out
  have x1_1 : w1.cell? ⟨w.heap.size, 1, none⟩ = some (.int .u32 b) := by rw [HX1.out.cell (p := ⟨w.heap.size, 1, none⟩) (by simp; omega) (by simp; omega)]; exact XX1.out
  have x2_1 : w1.cell? ⟨w.heap.size, 2, none⟩ = some (.int .u8 p) := by rw [HX1.out.cell (p := ⟨w.heap.size, 2, none⟩) (by simp; omega) (by simp; omega)]; exact XX2.out
  have x3_1 : w1.cell? ⟨w.heap.size, 3, none⟩ = some (.int .u16 sp) := by rw [HX1.out.cell (p := ⟨w.heap.size, 3, none⟩) (by simp; omega) (by simp; omega)]; exact XX3.out
  have x4_1 : w1.cell? ⟨w.heap.size, 4, none⟩ = some (.int .u16 dp) := by rw [HX1.out.cell (p := ⟨w.heap.size, 4, none⟩) (by simp; omega) (by simp; omega)]; exact XX4.out
  have x5_1 : w1.cell? ⟨w.heap.size, 5, none⟩ = some (.int .u8 f) := by rw [HX1.out.cell (p := ⟨w.heap.size, 5, none⟩) (by simp; omega) (by simp; omega)]; exact XX5.out
  clear x0 x1 x2 x3 x4 x5 c12 f12 c14 f14 c22 f22 c23 f23
  go_wp2_with fail
  refine (put4_any (set2 (((((List.replicate (42 + s.size) 0).set 12 8).set 14 69).set 22 64).set 23 p) 16 (28 + (s.size : Int))) (w.heap.size + 1 + 1) (42 + s.size) (42 + s.size) 26 a _ (by simp [set2_len, set4_len]) (by omega) HB1.out (by omega) (by omega) (by omega)).mono ?_
  rintro e w2 ⟨rfl, ht2, hb2⟩
  simp only [tn16, tn26, tn30, tn34, tn36, tn38] at hb2
  have HX2 : Hid (Tch (w.heap.size + 1 + 1) wm w2) := HX1.out.trans ht2
  have HB2 : Hid (Buf w2 (w.heap.size + 1 + 1) (set4 (set2 (((((List.replicate (42 + s.size) 0).set 12 8).set 14 69).set 22 64).set 23 p) 16 (28 + (s.size : Int))) 26 a)) := hb2
  clear ht2 hb2
  have x0_2 : w2.cell? ⟨w.heap.size, 0, none⟩ = some (.int .u32 a) := by rw [HX2.out.cell (p := ⟨w.heap.size, 0, none⟩) (by simp; omega) (by simp; omega)]; exact XX0.out
  have x1_2 : w2.cell? ⟨w.heap.size, 1, none⟩ = some (.int .u32 b) := by rw [HX2.out.cell (p := ⟨w.heap.size, 1, none⟩) (by simp; omega) (by simp; omega)]; exact XX1.out
  have x2_2 : w2.cell? ⟨w.heap.size, 2, none⟩ = some (.int .u8 p) := by rw [HX2.out.cell (p := ⟨w.heap.size, 2, none⟩) (by simp; omega) (by simp; omega)]; exact XX2.out
  have x3_2 : w2.cell? ⟨w.heap.size, 3, none⟩ = some (.int .u16 sp) := by rw [HX2.out.cell (p := ⟨w.heap.size, 3, none⟩) (by simp; omega) (by simp; omega)]; exact XX3.out
  have x4_2 : w2.cell? ⟨w.heap.size, 4, none⟩ = some (.int .u16 dp) := by rw [HX2.out.cell (p := ⟨w.heap.size, 4, none⟩) (by simp; omega) (by simp; omega)]; exact XX4.out
  have x5_2 : w2.cell? ⟨w.heap.size, 5, none⟩ = some (.int .u8 f) := by rw [HX2.out.cell (p := ⟨w.heap.size, 5, none⟩) (by simp; omega) (by simp; omega)]; exact XX5.out
  clear x0_1 x1_1 x2_1 x3_1 x4_1 x5_1
  go_wp2_with fail
  refine (put4_any (set4 (set2 (((((List.replicate (42 + s.size) 0).set 12 8).set 14 69).set 22 64).set 23 p) 16 (28 + (s.size : Int))) 26 a) (w.heap.size + 1 + 1) (42 + s.size) (42 + s.size) 30 b _ (by simp [set2_len, set4_len]) (by omega) HB2.out (by omega) (by omega) (by omega)).mono ?_
  rintro e w3 ⟨rfl, ht3, hb3⟩
  simp only [tn16, tn26, tn30, tn34, tn36, tn38] at hb3
  have HX3 : Hid (Tch (w.heap.size + 1 + 1) wm w3) := HX2.out.trans ht3
  have HB3 : Hid (Buf w3 (w.heap.size + 1 + 1) (set4 (set4 (set2 (((((List.replicate (42 + s.size) 0).set 12 8).set 14 69).set 22 64).set 23 p) 16 (28 + (s.size : Int))) 26 a) 30 b)) := hb3
  clear ht3 hb3
  have x0_3 : w3.cell? ⟨w.heap.size, 0, none⟩ = some (.int .u32 a) := by rw [HX3.out.cell (p := ⟨w.heap.size, 0, none⟩) (by simp; omega) (by simp; omega)]; exact XX0.out
  have x1_3 : w3.cell? ⟨w.heap.size, 1, none⟩ = some (.int .u32 b) := by rw [HX3.out.cell (p := ⟨w.heap.size, 1, none⟩) (by simp; omega) (by simp; omega)]; exact XX1.out
  have x2_3 : w3.cell? ⟨w.heap.size, 2, none⟩ = some (.int .u8 p) := by rw [HX3.out.cell (p := ⟨w.heap.size, 2, none⟩) (by simp; omega) (by simp; omega)]; exact XX2.out
  have x3_3 : w3.cell? ⟨w.heap.size, 3, none⟩ = some (.int .u16 sp) := by rw [HX3.out.cell (p := ⟨w.heap.size, 3, none⟩) (by simp; omega) (by simp; omega)]; exact XX3.out
  have x4_3 : w3.cell? ⟨w.heap.size, 4, none⟩ = some (.int .u16 dp) := by rw [HX3.out.cell (p := ⟨w.heap.size, 4, none⟩) (by simp; omega) (by simp; omega)]; exact XX4.out
  have x5_3 : w3.cell? ⟨w.heap.size, 5, none⟩ = some (.int .u8 f) := by rw [HX3.out.cell (p := ⟨w.heap.size, 5, none⟩) (by simp; omega) (by simp; omega)]; exact XX5.out
  clear x0_2 x1_2 x2_2 x3_2 x4_2 x5_2
  have c34 := HB3.out.cell 34 (by simp [set2_len, set4_len]; omega)
  have f34 := HB3.out.frozen 34
  have l34 : (34 : Int) < ((((42 + s.size) : Nat)) : Int) := by omega
  go_wp2_with fail
  refine (put2_any ((set4 (set4 (set2 (((((List.replicate (42 + s.size) 0).set 12 8).set 14 69).set 22 64).set 23 p) 16 (28 + (s.size : Int))) 26 a) 30 b).set 34 f) (w.heap.size + 1 + 1) (42 + s.size) (42 + s.size) 38 sp _ (by simp [set2_len, set4_len]) (by omega) (HB3.out.set 34 f) (by omega) (by omega) (by omega)).mono ?_
  rintro e w4 ⟨rfl, ht4, hb4⟩
  simp only [tn16, tn26, tn30, tn34, tn36, tn38] at hb4
  have HX4 : Hid (Tch (w.heap.size + 1 + 1) wm w4) := (HX3.out.set 34 _).trans ht4
  have HB4 : Hid (Buf w4 (w.heap.size + 1 + 1) (set2 ((set4 (set4 (set2 (((((List.replicate (42 + s.size) 0).set 12 8).set 14 69).set 22 64).set 23 p) 16 (28 + (s.size : Int))) 26 a) 30 b).set 34 f) 38 sp)) := hb4
  clear ht4 hb4
  have x0_4 : w4.cell? ⟨w.heap.size, 0, none⟩ = some (.int .u32 a) := by rw [HX4.out.cell (p := ⟨w.heap.size, 0, none⟩) (by simp; omega) (by simp; omega)]; exact XX0.out
  have x1_4 : w4.cell? ⟨w.heap.size, 1, none⟩ = some (.int .u32 b) := by rw [HX4.out.cell (p := ⟨w.heap.size, 1, none⟩) (by simp; omega) (by simp; omega)]; exact XX1.out
  have x2_4 : w4.cell? ⟨w.heap.size, 2, none⟩ = some (.int .u8 p) := by rw [HX4.out.cell (p := ⟨w.heap.size, 2, none⟩) (by simp; omega) (by simp; omega)]; exact XX2.out
  have x3_4 : w4.cell? ⟨w.heap.size, 3, none⟩ = some (.int .u16 sp) := by rw [HX4.out.cell (p := ⟨w.heap.size, 3, none⟩) (by simp; omega) (by simp; omega)]; exact XX3.out
  have x4_4 : w4.cell? ⟨w.heap.size, 4, none⟩ = some (.int .u16 dp) := by rw [HX4.out.cell (p := ⟨w.heap.size, 4, none⟩) (by simp; omega) (by simp; omega)]; exact XX4.out
  have x5_4 : w4.cell? ⟨w.heap.size, 5, none⟩ = some (.int .u8 f) := by rw [HX4.out.cell (p := ⟨w.heap.size, 5, none⟩) (by simp; omega) (by simp; omega)]; exact XX5.out
  clear x0_3 x1_3 x2_3 x3_3 x4_3 x5_3
  go_wp2_with fail
  go_loopw [9] (fun i wr => ∃ j : Nat, j ≤ s.size ∧ i = .int .i64 j ∧ Hid (Tch (w.heap.size + 1 + 1) wm wr) ∧ Hid (Buf wr (w.heap.size + 1 + 1) (payTo (set2 ((set4 (set4 (set2 (((((List.replicate (42 + s.size) 0).set 12 8).set 14 69).set 22 64).set 23 p) 16 (28 + (s.size : Int))) 26 a) 30 b).set 34 f) 38 sp) 42 (toL s) j))) (fun i _ => s.size - (intOf i).toNat)
  case atStart => exact ⟨0, Nat.zero_le _, rfl, HX4.out, HB4.out⟩
  case round =>
    obtain ⟨j, hj, rfl, HTr, HBr⟩ := hrel
    have hlen : (payTo (set2 ((set4 (set4 (set2 (((((List.replicate (42 + s.size) 0).set 12 8).set 14 69).set 22 64).set 23 p) 16 (28 + (s.size : Int))) 26 a) 30 b).set 34 f) 38 sp) 42 (toL s) j).length = (42 + s.size) := by rw [payTo_len]; simp [set2_len, set4_len]
    by_cases hlt : j < s.size
    · have cj := HBr.out.cell (42 + j) (by omega)
      have fj := HBr.out.frozen (42 + j)
      have lj : (42 : Int) + (j : Int) < ((((42 + s.size) : Nat)) : Int) := by omega
      have ej := nth_at s j hlt
      have bj := nth_bd s j
      clear hlen
      go_wp2
      go_roundw
      case rel =>
        refine ⟨j + 1, by omega, by go_num, HTr.out.set _ _, ?_⟩
        show Buf _ _ ((payTo (set2 ((set4 (set4 (set2 (((((List.replicate (42 + s.size) 0).set 12 8).set 14 69).set 22 64).set 23 p) 16 (28 + (s.size : Int))) 26 a) 30 b).set 34 f) 38 sp) 42 (toL s) j).set (42 + j) ((toL s).getD j 0))
        rw [toL_nth]
        exact HBr.out.set (42 + j) (nth s j)
      case measure => simp [intOf]; omega
    · have e : j = s.size := by omega
      subst e
      have epay : payTo (set2 ((set4 (set4 (set2 (((((List.replicate (42 + s.size) 0).set 12 8).set 14 69).set 22 64).set 23 p) 16 (28 + (s.size : Int))) 26 a) 30 b).set 34 f) 38 sp) 42 (toL s) s.size = (set2 ((set4 (set4 (set2 (((((List.replicate (42 + s.size) 0).set 12 8).set 14 69).set 22 64).set 23 p) 16 (28 + (s.size : Int))) 26 a) 30 b).set 34 f) 38 sp).take 42 ++ toL s := by
        have h := payTo_all (set2 ((set4 (set4 (set2 (((((List.replicate (42 + s.size) 0).set 12 8).set 14 69).set 22 64).set 23 p) 16 (28 + (s.size : Int))) 26 a) 30 b).set 34 f) 38 sp) 42 (toL s) (by simp [set2_len, set4_len, toL_len])
        rw [toL_len] at h; exact h
      rw [epay] at HBr hlen
      obtain ⟨LL, hLL⟩ : ∃ LL, LL = (set2 ((set4 (set4 (set2 (((((List.replicate (42 + s.size) 0).set 12 8).set 14 69).set 22 64).set 23 p) 16 (28 + (s.size : Int))) 26 a) 30 b).set 34 f) 38 sp).take 42 ++ toL s := ⟨_, rfl⟩
      have HY : Hid (Byt ((set2 ((set4 (set4 (set2 (((((List.replicate (42 + s.size) 0).set 12 8).set 14 69).set 22 64).set 23 p) 16 (28 + (s.size : Int))) 26 a) 30 b).set 34 f) 38 sp).take 42 ++ toL s)) := Byt.append (fun x hx => (Byt.set2 (Byt.set (Byt.set4 (Byt.set4 (Byt.set2 (Byt.set (Byt.set (Byt.set (Byt.set (Byt.zeros _) 12 8 (by omega)) 14 69 (by omega)) 22 64 (by omega)) 23 p (by omega)) 16 (28 + (s.size : Int)) (by omega)) 26 a (by omega)) 30 b (by omega)) 34 f (by omega)) 38 sp (by omega)) x (List.mem_of_mem_take hx)) HYp.out
      rw [← hLL] at HBr hlen HY
      have HLL : Hid (LL = (set2 ((set4 (set4 (set2 (((((List.replicate (42 + s.size) 0).set 12 8).set 14 69).set 22 64).set 23 p) 16 (28 + (s.size : Int))) 26 a) 30 b).set 34 f) 38 sp).take 42 ++ toL s) := hLL
      have HL : Hid (LL.length = (42 + s.size)) := hlen
      clear hlen hLL epay
      have hcv := HBr.out.conv HY.out (42 + s.size) (42 + s.size) HL.out
      have bf := fold_bd (ofL LL)
      go_wp2_with fail
      refine (folded_any (ofL LL) _ (by rw [ofL_size, HL.out]; unfold maxLen; omega) (by rw [ofL_size, HL.out]; omega)).mono ?_
      rintro e w8 ⟨rfl, rfl⟩
      go_wp2_with fail
      refine (put2_any LL (w.heap.size + 1 + 1) (42 + s.size) (42 + s.size) 24 (65535 - fold (sumTo (ofL LL) 10)) _ HL.out (by omega) HBr.out (by omega) (by omega) (by omega)).mono ?_
      rintro e w9 ⟨rfl, ht9, hb9⟩
      simp only [show ((24 : Int)).toNat = 24 from rfl] at hb9
      have hcv9 := hb9.conv (HY.out.set2 24 _ (by omega)) (42 + s.size) (42 + s.size) (by rw [set2_len]; exact HL.out)
      have HT9 : Hid (Tch (w.heap.size + 1 + 1) wm w9) := HTr.out.trans ht9
      clear ht9 hb9 hcv
      go_wp2
      go_ret2
      exact ⟨ret_sb (by rw [HLL.out]), HW.out.trans (HT9.out.below (by omega) (by omega))⟩

set_option maxRecDepth 100000 in
set_option maxHeartbeats 3200000 in
theorem refBuild_other (a b p sp dp f : Int) (s : ByteArray) (w : World) (hra : 0 ≤ a ∧ a ≤ 4294967295) (hrb : 0 ≤ b ∧ b ≤ 4294967295) (hrp : 0 ≤ p ∧ p ≤ 255) (hsp : 0 ≤ sp ∧ sp ≤ 65535) (hdp : 0 ≤ dp ∧ dp ≤ 65535) (hf : 0 ≤ f ∧ f ≤ 255) (hm : s.size ≤ 1000) (hmay : mayB p sp dp f = true) (p6 : p ≠ 6) (p17 : p ≠ 17) (p1 : p ≠ 1) :
    Calls Tryd.prog 22 #[.agg #[.int .u32 a, .int .u32 b, .int .u8 p, .int .u16 sp, .int .u16 dp, .int .u8 f], .string s] w fun e w' => e = .returned (.tuple #[.string (ofL (set2 ((set4 (set4 (set2 (((((List.replicate (34 + s.size) 0).set 12 8).set 14 69).set 22 64).set 23 p) 16 (20 + (s.size : Int))) 26 a) 30 b).take 34 ++ toL s) 24 (65535 - fold (sumTo (ofL ((set4 (set4 (set2 (((((List.replicate (34 + s.size) 0).set 12 8).set 14 69).set 22 64).set 23 p) 16 (20 + (s.size : Int))) 26 a) 30 b).take 34 ++ toL s)) 10)))), .bool true]) ∧ Below w.heap.size w w' := by
  have q6 : (p == 6) = false := by simpa using p6
  have q17 : (p == 17) = false := by simpa using p17
  have q1 : (p == 1) = false := by simpa using p1
  have HM : Hid (mayB p sp dp f = true) := hmay
  clear hmay p6 p17 p1
  have hm' : (s.size : Int) ≤ 1000 := by omega
  have HYp : Hid (Byt (toL s)) := toL_byt s
  obtain ⟨wm, hwm⟩ : ∃ wm, wm = ((w.alloc (.cells #[.int .u32 a, .int .u32 b, .int .u8 p, .int .u16 sp, .int .u16 dp, .int .u8 f] 28)).alloc (.cells #[.int .u32 a, .int .u32 b, .int .u8 p, .int .u16 sp, .int .u16 dp, .int .u8 f] 28)).alloc (.cells (madeCells #[.int .u8 0] (34 + s.size)) 5) := ⟨_, rfl⟩
  have hmk : (Instr.makeSlice 35 (.int .i64 (34 + (s.size : Int))) (.int .i64 (34 + (s.size : Int)))).run Tryd.prog ((w.alloc (.cells #[.int .u32 a, .int .u32 b, .int .u8 p, .int .u16 sp, .int .u16 dp, .int .u8 f] 28)).alloc (.cells #[.int .u32 a, .int .u32 b, .int .u8 p, .int .u16 sp, .int .u16 dp, .int .u8 f] 28)) = .ok (.slice (some ⟨w.heap.size + 1 + 1, 0, none⟩) (34 + s.size) (34 + s.size)) wm := by
    have h := run_make_row' (P := Tryd.prog) 35 5 (.int .u8 0) 1 Tryd.underlying35 Tryd.info8 rfl .i64 .i64 (34 + s.size) (by omega) (by omega) ((w.alloc (.cells #[.int .u32 a, .int .u32 b, .int .u8 p, .int .u16 sp, .int .u16 dp, .int .u8 f] 28)).alloc (.cells #[.int .u32 a, .int .u32 b, .int .u8 p, .int .u16 sp, .int .u16 dp, .int .u8 f] 28))
    rw [show ((((34 + s.size) : Nat)) : Int) = 34 + (s.size : Int) from by omega, ← hwm, show ((w.alloc (.cells #[.int .u32 a, .int .u32 b, .int .u8 p, .int .u16 sp, .int .u16 dp, .int .u8 f] 28)).alloc (.cells #[.int .u32 a, .int .u32 b, .int .u8 p, .int .u16 sp, .int .u16 dp, .int .u8 f] 28)).heap.size = w.heap.size + 1 + 1 from by simp] at h
    exact h
  have HB0 : Hid (Buf wm (w.heap.size + 1 + 1) (List.replicate (34 + s.size) 0)) := by
    have h := Buf.made ((w.alloc (.cells #[.int .u32 a, .int .u32 b, .int .u8 p, .int .u16 sp, .int .u16 dp, .int .u8 f] 28)).alloc (.cells #[.int .u32 a, .int .u32 b, .int .u8 p, .int .u16 sp, .int .u16 dp, .int .u8 f] 28)) (34 + s.size)
    rw [show ((w.alloc (.cells #[.int .u32 a, .int .u32 b, .int .u8 p, .int .u16 sp, .int .u16 dp, .int .u8 f] 28)).alloc (.cells #[.int .u32 a, .int .u32 b, .int .u8 p, .int .u16 sp, .int .u16 dp, .int .u8 f] 28)).heap.size = w.heap.size + 1 + 1 from by simp, ← hwm] at h
    exact h
  have HW : Hid (Below w.heap.size w wm) := by
    rw [hwm]; exact (((Below.refl _ _).alloc (Nat.le_refl _) _).alloc (by simp) _).alloc (by simp; omega) _
  have zm : wm.heap.size = w.heap.size + 1 + 1 + 1 := by rw [hwm]; simp
  have x0 : wm.cell? ⟨w.heap.size, 0, none⟩ = some (.int .u32 a) := by rw [hwm, World.cell?_alloc_lt _ _ _ (by simp; omega), World.cell?_alloc_lt _ _ _ (by simp), World.cell?_alloc_at _ _ _ _ rfl]; rfl
  have x1 : wm.cell? ⟨w.heap.size, 1, none⟩ = some (.int .u32 b) := by rw [hwm, World.cell?_alloc_lt _ _ _ (by simp; omega), World.cell?_alloc_lt _ _ _ (by simp), World.cell?_alloc_at _ _ _ _ rfl]; rfl
  have x2 : wm.cell? ⟨w.heap.size, 2, none⟩ = some (.int .u8 p) := by rw [hwm, World.cell?_alloc_lt _ _ _ (by simp; omega), World.cell?_alloc_lt _ _ _ (by simp), World.cell?_alloc_at _ _ _ _ rfl]; rfl
  have x3 : wm.cell? ⟨w.heap.size, 3, none⟩ = some (.int .u16 sp) := by rw [hwm, World.cell?_alloc_lt _ _ _ (by simp; omega), World.cell?_alloc_lt _ _ _ (by simp), World.cell?_alloc_at _ _ _ _ rfl]; rfl
  have x4 : wm.cell? ⟨w.heap.size, 4, none⟩ = some (.int .u16 dp) := by rw [hwm, World.cell?_alloc_lt _ _ _ (by simp; omega), World.cell?_alloc_lt _ _ _ (by simp), World.cell?_alloc_at _ _ _ _ rfl]; rfl
  have x5 : wm.cell? ⟨w.heap.size, 5, none⟩ = some (.int .u8 f) := by rw [hwm, World.cell?_alloc_lt _ _ _ (by simp; omega), World.cell?_alloc_lt _ _ _ (by simp), World.cell?_alloc_at _ _ _ _ rfl]; rfl
  clear hwm
  have XX0 : Hid (wm.cell? ⟨w.heap.size, 0, none⟩ = some (.int .u32 a)) := x0
  have XX1 : Hid (wm.cell? ⟨w.heap.size, 1, none⟩ = some (.int .u32 b)) := x1
  have XX2 : Hid (wm.cell? ⟨w.heap.size, 2, none⟩ = some (.int .u8 p)) := x2
  have XX3 : Hid (wm.cell? ⟨w.heap.size, 3, none⟩ = some (.int .u16 sp)) := x3
  have XX4 : Hid (wm.cell? ⟨w.heap.size, 4, none⟩ = some (.int .u16 dp)) := x4
  have XX5 : Hid (wm.cell? ⟨w.heap.size, 5, none⟩ = some (.int .u8 f)) := x5
  have c12 := HB0.out.cell 12 (by simp; omega)
  have f12 := HB0.out.frozen 12
  have l12 : (12 : Int) < ((((34 + s.size) : Nat)) : Int) := by omega
  have c14 := HB0.out.cell 14 (by simp; omega)
  have f14 := HB0.out.frozen 14
  have l14 : (14 : Int) < ((((34 + s.size) : Nat)) : Int) := by omega
  have c22 := HB0.out.cell 22 (by simp; omega)
  have f22 := HB0.out.frozen 22
  have l22 : (22 : Int) < ((((34 + s.size) : Nat)) : Int) := by omega
  have c23 := HB0.out.cell 23 (by simp; omega)
  have f23 := HB0.out.frozen 23
  have l23 : (23 : Int) < ((((34 + s.size) : Nat)) : Int) := by omega
  have gn : w.heap.size ≠ w.heap.size + 1 + 1 := by omega
  go_enter Tryd.func22, Tryd.ntmps22
  go_wp2_with ((go_at_call 32; refine (may_any _ _ _ _ _ _ _).mono ?_; rintro e w' ⟨rfl, rfl⟩; rw [HM.out]))
  have HB : Hid (Buf ((((wm.setCell ⟨(w.heap.size + 1 + 1), 12, none⟩ (.int .u8 8)).setCell ⟨(w.heap.size + 1 + 1), 14, none⟩ (.int .u8 69)).setCell ⟨(w.heap.size + 1 + 1), 22, none⟩ (.int .u8 64)).setCell ⟨(w.heap.size + 1 + 1), 23, none⟩ (.int .u8 p)) (w.heap.size + 1 + 1) (((((List.replicate (34 + s.size) 0).set 12 8).set 14 69).set 22 64).set 23 p)) := (((HB0.out.set 12 8).set 14 69).set 22 64).set 23 p
  have HX : Hid (Tch (w.heap.size + 1 + 1) wm ((((wm.setCell ⟨(w.heap.size + 1 + 1), 12, none⟩ (.int .u8 8)).setCell ⟨(w.heap.size + 1 + 1), 14, none⟩ (.int .u8 69)).setCell ⟨(w.heap.size + 1 + 1), 22, none⟩ (.int .u8 64)).setCell ⟨(w.heap.size + 1 + 1), 23, none⟩ (.int .u8 p))) := ((((Tch.refl _ _).set _ _).set _ _).set _ _).set _ _
  refine (put2_any (((((List.replicate (34 + s.size) 0).set 12 8).set 14 69).set 22 64).set 23 p) (w.heap.size + 1 + 1) (34 + s.size) (34 + s.size) 16 (20 + (s.size : Int)) _ (by simp [set2_len, set4_len]) (by omega) HB.out (by omega) (by omega) (by omega)).mono ?_
  rintro e w1 ⟨rfl, ht1, hb1⟩
  simp only [tn16, tn26, tn30, tn34, tn36, tn38] at hb1
  have HX1 : Hid (Tch (w.heap.size + 1 + 1) wm w1) := HX.out.trans ht1
  have HB1 : Hid (Buf w1 (w.heap.size + 1 + 1) (set2 (((((List.replicate (34 + s.size) 0).set 12 8).set 14 69).set 22 64).set 23 p) 16 (20 + (s.size : Int)))) := hb1
  clear ht1 hb1
  have x0_1 : w1.cell? ⟨w.heap.size, 0, none⟩ = some (.int .u32 a) := by rw [HX1.out.cell (p := ⟨w.heap.size, 0, none⟩) (by simp; omega) (by simp; omega)]; exact XX0.out
  have x1_1 : w1.cell? ⟨w.heap.size, 1, none⟩ = some (.int .u32 b) := by rw [HX1.out.cell (p := ⟨w.heap.size, 1, none⟩) (by simp; omega) (by simp; omega)]; exact XX1.out
  have x2_1 : w1.cell? ⟨w.heap.size, 2, none⟩ = some (.int .u8 p) := by rw [HX1.out.cell (p := ⟨w.heap.size, 2, none⟩) (by simp; omega) (by simp; omega)]; exact XX2.out
  have x3_1 : w1.cell? ⟨w.heap.size, 3, none⟩ = some (.int .u16 sp) := by rw [HX1.out.cell (p := ⟨w.heap.size, 3, none⟩) (by simp; omega) (by simp; omega)]; exact XX3.out
  have x4_1 : w1.cell? ⟨w.heap.size, 4, none⟩ = some (.int .u16 dp) := by rw [HX1.out.cell (p := ⟨w.heap.size, 4, none⟩) (by simp; omega) (by simp; omega)]; exact XX4.out
  have x5_1 : w1.cell? ⟨w.heap.size, 5, none⟩ = some (.int .u8 f) := by rw [HX1.out.cell (p := ⟨w.heap.size, 5, none⟩) (by simp; omega) (by simp; omega)]; exact XX5.out
  clear x0 x1 x2 x3 x4 x5 c12 f12 c14 f14 c22 f22 c23 f23
  go_wp2_with fail
  refine (put4_any (set2 (((((List.replicate (34 + s.size) 0).set 12 8).set 14 69).set 22 64).set 23 p) 16 (20 + (s.size : Int))) (w.heap.size + 1 + 1) (34 + s.size) (34 + s.size) 26 a _ (by simp [set2_len, set4_len]) (by omega) HB1.out (by omega) (by omega) (by omega)).mono ?_
  rintro e w2 ⟨rfl, ht2, hb2⟩
  simp only [tn16, tn26, tn30, tn34, tn36, tn38] at hb2
  have HX2 : Hid (Tch (w.heap.size + 1 + 1) wm w2) := HX1.out.trans ht2
  have HB2 : Hid (Buf w2 (w.heap.size + 1 + 1) (set4 (set2 (((((List.replicate (34 + s.size) 0).set 12 8).set 14 69).set 22 64).set 23 p) 16 (20 + (s.size : Int))) 26 a)) := hb2
  clear ht2 hb2
  have x0_2 : w2.cell? ⟨w.heap.size, 0, none⟩ = some (.int .u32 a) := by rw [HX2.out.cell (p := ⟨w.heap.size, 0, none⟩) (by simp; omega) (by simp; omega)]; exact XX0.out
  have x1_2 : w2.cell? ⟨w.heap.size, 1, none⟩ = some (.int .u32 b) := by rw [HX2.out.cell (p := ⟨w.heap.size, 1, none⟩) (by simp; omega) (by simp; omega)]; exact XX1.out
  have x2_2 : w2.cell? ⟨w.heap.size, 2, none⟩ = some (.int .u8 p) := by rw [HX2.out.cell (p := ⟨w.heap.size, 2, none⟩) (by simp; omega) (by simp; omega)]; exact XX2.out
  have x3_2 : w2.cell? ⟨w.heap.size, 3, none⟩ = some (.int .u16 sp) := by rw [HX2.out.cell (p := ⟨w.heap.size, 3, none⟩) (by simp; omega) (by simp; omega)]; exact XX3.out
  have x4_2 : w2.cell? ⟨w.heap.size, 4, none⟩ = some (.int .u16 dp) := by rw [HX2.out.cell (p := ⟨w.heap.size, 4, none⟩) (by simp; omega) (by simp; omega)]; exact XX4.out
  have x5_2 : w2.cell? ⟨w.heap.size, 5, none⟩ = some (.int .u8 f) := by rw [HX2.out.cell (p := ⟨w.heap.size, 5, none⟩) (by simp; omega) (by simp; omega)]; exact XX5.out
  clear x0_1 x1_1 x2_1 x3_1 x4_1 x5_1
  go_wp2_with fail
  refine (put4_any (set4 (set2 (((((List.replicate (34 + s.size) 0).set 12 8).set 14 69).set 22 64).set 23 p) 16 (20 + (s.size : Int))) 26 a) (w.heap.size + 1 + 1) (34 + s.size) (34 + s.size) 30 b _ (by simp [set2_len, set4_len]) (by omega) HB2.out (by omega) (by omega) (by omega)).mono ?_
  rintro e w3 ⟨rfl, ht3, hb3⟩
  simp only [tn16, tn26, tn30, tn34, tn36, tn38] at hb3
  have HX3 : Hid (Tch (w.heap.size + 1 + 1) wm w3) := HX2.out.trans ht3
  have HB3 : Hid (Buf w3 (w.heap.size + 1 + 1) (set4 (set4 (set2 (((((List.replicate (34 + s.size) 0).set 12 8).set 14 69).set 22 64).set 23 p) 16 (20 + (s.size : Int))) 26 a) 30 b)) := hb3
  clear ht3 hb3
  have x0_3 : w3.cell? ⟨w.heap.size, 0, none⟩ = some (.int .u32 a) := by rw [HX3.out.cell (p := ⟨w.heap.size, 0, none⟩) (by simp; omega) (by simp; omega)]; exact XX0.out
  have x1_3 : w3.cell? ⟨w.heap.size, 1, none⟩ = some (.int .u32 b) := by rw [HX3.out.cell (p := ⟨w.heap.size, 1, none⟩) (by simp; omega) (by simp; omega)]; exact XX1.out
  have x2_3 : w3.cell? ⟨w.heap.size, 2, none⟩ = some (.int .u8 p) := by rw [HX3.out.cell (p := ⟨w.heap.size, 2, none⟩) (by simp; omega) (by simp; omega)]; exact XX2.out
  have x3_3 : w3.cell? ⟨w.heap.size, 3, none⟩ = some (.int .u16 sp) := by rw [HX3.out.cell (p := ⟨w.heap.size, 3, none⟩) (by simp; omega) (by simp; omega)]; exact XX3.out
  have x4_3 : w3.cell? ⟨w.heap.size, 4, none⟩ = some (.int .u16 dp) := by rw [HX3.out.cell (p := ⟨w.heap.size, 4, none⟩) (by simp; omega) (by simp; omega)]; exact XX4.out
  have x5_3 : w3.cell? ⟨w.heap.size, 5, none⟩ = some (.int .u8 f) := by rw [HX3.out.cell (p := ⟨w.heap.size, 5, none⟩) (by simp; omega) (by simp; omega)]; exact XX5.out
  clear x0_2 x1_2 x2_2 x3_2 x4_2 x5_2
  go_wp2_with fail
  go_loopw [9] (fun i wr => ∃ j : Nat, j ≤ s.size ∧ i = .int .i64 j ∧ Hid (Tch (w.heap.size + 1 + 1) wm wr) ∧ Hid (Buf wr (w.heap.size + 1 + 1) (payTo (set4 (set4 (set2 (((((List.replicate (34 + s.size) 0).set 12 8).set 14 69).set 22 64).set 23 p) 16 (20 + (s.size : Int))) 26 a) 30 b) 34 (toL s) j))) (fun i _ => s.size - (intOf i).toNat)
  case atStart => exact ⟨0, Nat.zero_le _, rfl, HX3.out, HB3.out⟩
  case round =>
    obtain ⟨j, hj, rfl, HTr, HBr⟩ := hrel
    have hlen : (payTo (set4 (set4 (set2 (((((List.replicate (34 + s.size) 0).set 12 8).set 14 69).set 22 64).set 23 p) 16 (20 + (s.size : Int))) 26 a) 30 b) 34 (toL s) j).length = (34 + s.size) := by rw [payTo_len]; simp [set2_len, set4_len]
    by_cases hlt : j < s.size
    · have cj := HBr.out.cell (34 + j) (by omega)
      have fj := HBr.out.frozen (34 + j)
      have lj : (34 : Int) + (j : Int) < ((((34 + s.size) : Nat)) : Int) := by omega
      have ej := nth_at s j hlt
      have bj := nth_bd s j
      clear hlen
      go_wp2
      go_roundw
      case rel =>
        refine ⟨j + 1, by omega, by go_num, HTr.out.set _ _, ?_⟩
        show Buf _ _ ((payTo (set4 (set4 (set2 (((((List.replicate (34 + s.size) 0).set 12 8).set 14 69).set 22 64).set 23 p) 16 (20 + (s.size : Int))) 26 a) 30 b) 34 (toL s) j).set (34 + j) ((toL s).getD j 0))
        rw [toL_nth]
        exact HBr.out.set (34 + j) (nth s j)
      case measure => simp [intOf]; omega
    · have e : j = s.size := by omega
      subst e
      have epay : payTo (set4 (set4 (set2 (((((List.replicate (34 + s.size) 0).set 12 8).set 14 69).set 22 64).set 23 p) 16 (20 + (s.size : Int))) 26 a) 30 b) 34 (toL s) s.size = (set4 (set4 (set2 (((((List.replicate (34 + s.size) 0).set 12 8).set 14 69).set 22 64).set 23 p) 16 (20 + (s.size : Int))) 26 a) 30 b).take 34 ++ toL s := by
        have h := payTo_all (set4 (set4 (set2 (((((List.replicate (34 + s.size) 0).set 12 8).set 14 69).set 22 64).set 23 p) 16 (20 + (s.size : Int))) 26 a) 30 b) 34 (toL s) (by simp [set2_len, set4_len, toL_len])
        rw [toL_len] at h; exact h
      rw [epay] at HBr hlen
      obtain ⟨LL, hLL⟩ : ∃ LL, LL = (set4 (set4 (set2 (((((List.replicate (34 + s.size) 0).set 12 8).set 14 69).set 22 64).set 23 p) 16 (20 + (s.size : Int))) 26 a) 30 b).take 34 ++ toL s := ⟨_, rfl⟩
      have HY : Hid (Byt ((set4 (set4 (set2 (((((List.replicate (34 + s.size) 0).set 12 8).set 14 69).set 22 64).set 23 p) 16 (20 + (s.size : Int))) 26 a) 30 b).take 34 ++ toL s)) := Byt.append (fun x hx => (Byt.set4 (Byt.set4 (Byt.set2 (Byt.set (Byt.set (Byt.set (Byt.set (Byt.zeros _) 12 8 (by omega)) 14 69 (by omega)) 22 64 (by omega)) 23 p (by omega)) 16 (20 + (s.size : Int)) (by omega)) 26 a (by omega)) 30 b (by omega)) x (List.mem_of_mem_take hx)) HYp.out
      rw [← hLL] at HBr hlen HY
      have HLL : Hid (LL = (set4 (set4 (set2 (((((List.replicate (34 + s.size) 0).set 12 8).set 14 69).set 22 64).set 23 p) 16 (20 + (s.size : Int))) 26 a) 30 b).take 34 ++ toL s) := hLL
      have HL : Hid (LL.length = (34 + s.size)) := hlen
      clear hlen hLL epay
      have hcv := HBr.out.conv HY.out (34 + s.size) (34 + s.size) HL.out
      have bf := fold_bd (ofL LL)
      go_wp2_with fail
      refine (folded_any (ofL LL) _ (by rw [ofL_size, HL.out]; unfold maxLen; omega) (by rw [ofL_size, HL.out]; omega)).mono ?_
      rintro e w8 ⟨rfl, rfl⟩
      go_wp2_with fail
      refine (put2_any LL (w.heap.size + 1 + 1) (34 + s.size) (34 + s.size) 24 (65535 - fold (sumTo (ofL LL) 10)) _ HL.out (by omega) HBr.out (by omega) (by omega) (by omega)).mono ?_
      rintro e w9 ⟨rfl, ht9, hb9⟩
      simp only [show ((24 : Int)).toNat = 24 from rfl] at hb9
      have hcv9 := hb9.conv (HY.out.set2 24 _ (by omega)) (34 + s.size) (34 + s.size) (by rw [set2_len]; exact HL.out)
      have HT9 : Hid (Tch (w.heap.size + 1 + 1) wm w9) := HTr.out.trans ht9
      clear ht9 hb9 hcv
      go_wp2
      go_ret2
      exact ⟨ret_sb (by rw [HLL.out]), HW.out.trans (HT9.out.below (by omega) (by omega))⟩

end Go.Proofs.YtclpnafiiobfhaaDoor
import Derived.Test.YtclpnafiiobfhabGreatDoorFrPutHead
namespace Go.Proofs.YtclpnafiiobfhabGreatDoor
open Go.RowKit
set_option linter.unusedVariables false
set_option linter.unusedSimpArgs false

/-- can Parse give such a header? -/
def mayB (p sp dp f : Int) : Bool :=
  if p = 6 then decide (f ≤ 63) else if p = 17 then f == 0 else if p = 1 then sp == dp && ((f == 8 || f == 0) || sp == 0) else (sp == 0 && dp == 0) && f == 0

set_option maxHeartbeats 800000 in
theorem canBe_tcp (a b p sp dp f : Int) (w : World) (q6 : (p == 6) = true) :
    Calls Tryz.prog 58 #[.agg #[.int .u32 a, .int .u32 b, .int .u8 p, .int .u16 sp, .int .u16 dp, .int .u8 f]] w fun e w' => e = .returned (.bool (decide (f ≤ 63))) ∧ w' = w.alloc (.cells #[.int .u32 a, .int .u32 b, .int .u8 p, .int .u16 sp, .int .u16 dp, .int .u8 f] 28) := by
  go_enter Tryz.func58, Tryz.ntmps58
  go_wp2_with (fail)
  go_ret
  exact ⟨rfl, rfl⟩

set_option maxHeartbeats 800000 in
theorem canBe_udp (a b p sp dp f : Int) (w : World) (q6 : (p == 6) = false) (q17 : (p == 17) = true) :
    Calls Tryz.prog 58 #[.agg #[.int .u32 a, .int .u32 b, .int .u8 p, .int .u16 sp, .int .u16 dp, .int .u8 f]] w fun e w' => e = .returned (.bool (f == 0)) ∧ w' = w.alloc (.cells #[.int .u32 a, .int .u32 b, .int .u8 p, .int .u16 sp, .int .u16 dp, .int .u8 f] 28) := by
  go_enter Tryz.func58, Tryz.ntmps58
  go_wp2_with (fail)
  go_ret
  exact ⟨rfl, rfl⟩

set_option maxHeartbeats 800000 in
theorem canBe_icmp_n (a b p sp dp f : Int) (w : World) (q6 : (p == 6) = false) (q17 : (p == 17) = false) (q1 : (p == 1) = true) (qd : (sp == dp) = false) :
    Calls Tryz.prog 58 #[.agg #[.int .u32 a, .int .u32 b, .int .u8 p, .int .u16 sp, .int .u16 dp, .int .u8 f]] w fun e w' => e = .returned (.bool false) ∧ w' = w.alloc (.cells #[.int .u32 a, .int .u32 b, .int .u8 p, .int .u16 sp, .int .u16 dp, .int .u8 f] 28) := by
  go_enter Tryz.func58, Tryz.ntmps58
  go_wp2_with (fail)
  go_ret
  exact ⟨rfl, rfl⟩

set_option maxHeartbeats 800000 in
theorem canBe_icmp_e (a b p sp dp f : Int) (w : World) (q6 : (p == 6) = false) (q17 : (p == 17) = false) (q1 : (p == 1) = true) (qd : (sp == dp) = true) (qe : (f == 8 || f == 0) = true) :
    Calls Tryz.prog 58 #[.agg #[.int .u32 a, .int .u32 b, .int .u8 p, .int .u16 sp, .int .u16 dp, .int .u8 f]] w fun e w' => e = .returned (.bool true) ∧ w' = w.alloc (.cells #[.int .u32 a, .int .u32 b, .int .u8 p, .int .u16 sp, .int .u16 dp, .int .u8 f] 28) := by
  have QE : Hid ((f == 8 || f == 0) = true) := qe
  clear qe
  go_enter Tryz.func58, Tryz.ntmps58
  go_wp2_with (go_at_call 91; refine (isEcho_is _ _ _ QE.out).mono ?_; rintro e w' ⟨rfl, rfl⟩)
  go_ret
  exact ⟨rfl, rfl⟩

set_option maxHeartbeats 800000 in
theorem canBe_icmp_z (a b p sp dp f : Int) (w : World) (q6 : (p == 6) = false) (q17 : (p == 17) = false) (q1 : (p == 1) = true) (qd : (sp == dp) = true) (qe : (f == 8 || f == 0) = false) :
    Calls Tryz.prog 58 #[.agg #[.int .u32 a, .int .u32 b, .int .u8 p, .int .u16 sp, .int .u16 dp, .int .u8 f]] w fun e w' => e = .returned (.bool (sp == 0)) ∧ w' = w.alloc (.cells #[.int .u32 a, .int .u32 b, .int .u8 p, .int .u16 sp, .int .u16 dp, .int .u8 f] 28) := by
  have QE : Hid ((f == 8 || f == 0) = false) := qe
  clear qe
  go_enter Tryz.func58, Tryz.ntmps58
  go_wp2_with (go_at_call 91; refine (isEcho_is _ _ _ QE.out).mono ?_; rintro e w' ⟨rfl, rfl⟩)
  go_ret
  exact ⟨rfl, rfl⟩

set_option maxHeartbeats 800000 in
theorem canBe_other_1 (a b p sp dp f : Int) (w : World) (q6 : (p == 6) = false) (q17 : (p == 17) = false) (q1 : (p == 1) = false) (qs : (sp == 0) = false) :
    Calls Tryz.prog 58 #[.agg #[.int .u32 a, .int .u32 b, .int .u8 p, .int .u16 sp, .int .u16 dp, .int .u8 f]] w fun e w' => e = .returned (.bool false) ∧ w' = w.alloc (.cells #[.int .u32 a, .int .u32 b, .int .u8 p, .int .u16 sp, .int .u16 dp, .int .u8 f] 28) := by
  go_enter Tryz.func58, Tryz.ntmps58
  go_wp2_with (fail)
  go_ret
  exact ⟨rfl, rfl⟩

set_option maxHeartbeats 800000 in
theorem canBe_other_2 (a b p sp dp f : Int) (w : World) (q6 : (p == 6) = false) (q17 : (p == 17) = false) (q1 : (p == 1) = false) (qs : (sp == 0) = true) (qd : (dp == 0) = false) :
    Calls Tryz.prog 58 #[.agg #[.int .u32 a, .int .u32 b, .int .u8 p, .int .u16 sp, .int .u16 dp, .int .u8 f]] w fun e w' => e = .returned (.bool false) ∧ w' = w.alloc (.cells #[.int .u32 a, .int .u32 b, .int .u8 p, .int .u16 sp, .int .u16 dp, .int .u8 f] 28) := by
  go_enter Tryz.func58, Tryz.ntmps58
  go_wp2_with (fail)
  go_ret
  exact ⟨rfl, rfl⟩

set_option maxHeartbeats 800000 in
theorem canBe_other_3 (a b p sp dp f : Int) (w : World) (q6 : (p == 6) = false) (q17 : (p == 17) = false) (q1 : (p == 1) = false) (qs : (sp == 0) = true) (qd : (dp == 0) = true) :
    Calls Tryz.prog 58 #[.agg #[.int .u32 a, .int .u32 b, .int .u8 p, .int .u16 sp, .int .u16 dp, .int .u8 f]] w fun e w' => e = .returned (.bool (f == 0)) ∧ w' = w.alloc (.cells #[.int .u32 a, .int .u32 b, .int .u8 p, .int .u16 sp, .int .u16 dp, .int .u8 f] 28) := by
  go_enter Tryz.func58, Tryz.ntmps58
  go_wp2_with (fail)
  go_ret
  exact ⟨rfl, rfl⟩

theorem canBe_any (a b p sp dp f : Int) (w : World) :
    Calls Tryz.prog 58 #[.agg #[.int .u32 a, .int .u32 b, .int .u8 p, .int .u16 sp, .int .u16 dp, .int .u8 f]] w fun e w' => e = .returned (.bool (mayB p sp dp f)) ∧ w' = w.alloc (.cells #[.int .u32 a, .int .u32 b, .int .u8 p, .int .u16 sp, .int .u16 dp, .int .u8 f] 28) := by
  by_cases p6 : p = 6
  · rw [show mayB p sp dp f = decide (f ≤ 63) from by simp [mayB, p6]]; exact canBe_tcp a b p sp dp f w (by simp [p6])
  have q6 : (p == 6) = false := by simpa using p6
  by_cases p17 : p = 17
  · rw [show mayB p sp dp f = (f == 0) from by simp [mayB, p17]]; exact canBe_udp a b p sp dp f w q6 (by simp [p17])
  have q17 : (p == 17) = false := by simpa using p17
  by_cases p1 : p = 1
  · have q1 : (p == 1) = true := by simp [p1]
    cases qd : (sp == dp)
    · rw [show mayB p sp dp f = false from by simp [mayB, p1, qd]]; exact canBe_icmp_n a b p sp dp f w q6 q17 q1 qd
    · cases qe : (f == 8 || f == 0)
      · rw [show mayB p sp dp f = (sp == 0) from by simp only [mayB, p1, qd, qe]; simp]; exact canBe_icmp_z a b p sp dp f w q6 q17 q1 qd qe
      · rw [show mayB p sp dp f = true from by simp only [mayB, p1, qd, qe]; simp]; exact canBe_icmp_e a b p sp dp f w q6 q17 q1 qd qe
  have q1 : (p == 1) = false := by simpa using p1
  have e0 : mayB p sp dp f = ((sp == 0 && dp == 0) && f == 0) := by simp [mayB, p6, p17, p1]
  cases qs : (sp == 0)
  · rw [show mayB p sp dp f = false from by rw [e0, qs]; rfl]; exact canBe_other_1 a b p sp dp f w q6 q17 q1 qs
  · cases qd : (dp == 0)
    · rw [show mayB p sp dp f = false from by rw [e0, qs, qd]; rfl]; exact canBe_other_2 a b p sp dp f w q6 q17 q1 qs qd
    · rw [show mayB p sp dp f = (f == 0) from by rw [e0, qs, qd]; rfl]; exact canBe_other_3 a b p sp dp f w q6 q17 q1 qs qd

/-- what putInner writes -/
def innerOf (l : List Int) (p sp dp f n : Int) : List Int :=
  if p = 6 then ((set2 (set2 l 34 sp) 36 dp).set 46 80).set 47 f
  else if p = 17 then set2 (set2 (set2 l 34 sp) 36 dp) 38 (8 + n)
  else if p = 1 then set2 (l.set 34 f) 38 sp else l
theorem innerOf_len (l : List Int) (p sp dp f n : Int) : (innerOf l p sp dp f n).length = l.length := by
  unfold innerOf; repeat' split
  all_goals simp [set2_len]
theorem innerOf_byt {l : List Int} (h : Byt l) (p sp dp f n : Int) (hsp : 0 ≤ sp ∧ sp ≤ 65535) (hdp : 0 ≤ dp ∧ dp ≤ 65535) (hf : 0 ≤ f ∧ f ≤ 255) (hn : 0 ≤ n ∧ n ≤ 1000) : Byt (innerOf l p sp dp f n) := by
  unfold innerOf; repeat' split
  · exact (((h.set2 _ _ hsp).set2 _ _ hdp).set _ _ (by omega)).set _ _ hf
  · exact ((h.set2 _ _ hsp).set2 _ _ hdp).set2 _ _ (by omega)
  · exact (h.set _ _ hf).set2 _ _ hsp
  · exact h
theorem putInner_any (l : List Int) (g N cap : Nat) (a b p sp dp f n : Int) (w : World) (hN : l.length = N) (hl : N ≤ 2000) (hb : Buf w g l) (hsp : 0 ≤ sp ∧ sp ≤ 65535) (hdp : 0 ≤ dp ∧ dp ≤ 65535) (hn : 0 ≤ n ∧ n ≤ 1000) (h : 34 + isz p ≤ N) :
    Calls Tryz.prog 60 #[.slice (some ⟨g, 0, none⟩) N cap, .agg #[.int .u32 a, .int .u32 b, .int .u8 p, .int .u16 sp, .int .u16 dp, .int .u8 f], .int .i64 n] w fun e w' => e = .returned (.tuple #[]) ∧ Tch g w w' ∧ Buf w' g (innerOf l p sp dp f n) := by
  by_cases p6 : p = 6
  · rw [show innerOf l p sp dp f n = ((set2 (set2 l 34 sp) 36 dp).set 46 80).set 47 f from by simp [innerOf, p6]]
    exact putInner_tcp l g N cap a b p sp dp f n w hN hl hb hsp hdp hn (by simp [isz, p6] at h; omega) (by simp [p6])
  by_cases p17 : p = 17
  · rw [show innerOf l p sp dp f n = set2 (set2 (set2 l 34 sp) 36 dp) 38 (8 + n) from by simp [innerOf, p17]]
    exact putInner_udp l g N cap a b p sp dp f n w hN hl hb hsp hdp hn (by simp [isz, p17] at h; omega) (by simp [p17]) (by simp [p17])
  by_cases p1 : p = 1
  · rw [show innerOf l p sp dp f n = set2 (l.set 34 f) 38 sp from by simp [innerOf, p1]]
    exact putInner_icmp l g N cap a b p sp dp f n w hN hl hb hsp hdp hn (by simp [isz, p1] at h; omega) (by simp [p1]) (by simp [p1]) (by simp [p1])
  · rw [show innerOf l p sp dp f n = l from by simp [innerOf, p6, p17, p1]]
    exact putInner_other l g N cap a b p sp dp f n w hN hl hb hsp hdp hn (by simp [isz, p6, p17, p1] at h; omega) (by simp [p6]) (by simp [p17]) (by simp [p1])
end Go.Proofs.YtclpnafiiobfhabGreatDoor
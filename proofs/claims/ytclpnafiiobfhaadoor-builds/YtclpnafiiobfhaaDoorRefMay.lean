import Derived.Test.YtclpnafiiobfhaaDoorFrCan
import Derived.Test.YtclpnafiiobfhaaDoorRefPut
namespace Go.Proofs.YtclpnafiiobfhaaDoor
open Go.RowKit
set_option linter.unusedVariables false
set_option linter.unusedSimpArgs false

set_option maxHeartbeats 800000 in
theorem may_tcp (a b p sp dp f : Int) (w : World) (q6 : (p == 6) = true) :
    Calls Tryd.prog 32 #[.agg #[.int .u32 a, .int .u32 b, .int .u8 p, .int .u16 sp, .int .u16 dp, .int .u8 f]] w fun e w' => e = .returned (.bool (decide (f < 64))) ∧ w' = w.alloc (.cells #[.int .u32 a, .int .u32 b, .int .u8 p, .int .u16 sp, .int .u16 dp, .int .u8 f] 28) := by
  go_enter Tryd.func32, Tryd.ntmps32
  go_wp2
  go_ret
  exact ⟨rfl, rfl⟩

set_option maxHeartbeats 800000 in
theorem may_udp (a b p sp dp f : Int) (w : World) (q6 : (p == 6) = false) (q17 : (p == 17) = true) :
    Calls Tryd.prog 32 #[.agg #[.int .u32 a, .int .u32 b, .int .u8 p, .int .u16 sp, .int .u16 dp, .int .u8 f]] w fun e w' => e = .returned (.bool (f == 0)) ∧ w' = w.alloc (.cells #[.int .u32 a, .int .u32 b, .int .u8 p, .int .u16 sp, .int .u16 dp, .int .u8 f] 28) := by
  go_enter Tryd.func32, Tryd.ntmps32
  go_wp2
  go_ret
  exact ⟨rfl, rfl⟩

set_option maxHeartbeats 800000 in
theorem may_icmp_d8 (a b p sp dp f : Int) (w : World) (q6 : (p == 6) = false) (q17 : (p == 17) = false) (q1 : (p == 1) = true) (qd : (sp == dp) = true) (q8 : (f == 8) = true) :
    Calls Tryd.prog 32 #[.agg #[.int .u32 a, .int .u32 b, .int .u8 p, .int .u16 sp, .int .u16 dp, .int .u8 f]] w fun e w' => e = .returned (.bool true) ∧ w' = w.alloc (.cells #[.int .u32 a, .int .u32 b, .int .u8 p, .int .u16 sp, .int .u16 dp, .int .u8 f] 28) := by
  go_enter Tryd.func32, Tryd.ntmps32
  go_wp2
  go_ret
  exact ⟨rfl, rfl⟩

set_option maxHeartbeats 800000 in
theorem may_icmp_x8 (a b p sp dp f : Int) (w : World) (q6 : (p == 6) = false) (q17 : (p == 17) = false) (q1 : (p == 1) = true) (qd : (sp == dp) = false) (q8 : (f == 8) = true) :
    Calls Tryd.prog 32 #[.agg #[.int .u32 a, .int .u32 b, .int .u8 p, .int .u16 sp, .int .u16 dp, .int .u8 f]] w fun e w' => e = .returned (.bool false) ∧ w' = w.alloc (.cells #[.int .u32 a, .int .u32 b, .int .u8 p, .int .u16 sp, .int .u16 dp, .int .u8 f] 28) := by
  go_enter Tryd.func32, Tryd.ntmps32
  go_wp2
  go_ret
  exact ⟨rfl, rfl⟩

set_option maxHeartbeats 800000 in
theorem may_icmp_d0 (a b p sp dp f : Int) (w : World) (q6 : (p == 6) = false) (q17 : (p == 17) = false) (q1 : (p == 1) = true) (qd : (sp == dp) = true) (q8 : (f == 8) = false) (q0 : (f == 0) = true) :
    Calls Tryd.prog 32 #[.agg #[.int .u32 a, .int .u32 b, .int .u8 p, .int .u16 sp, .int .u16 dp, .int .u8 f]] w fun e w' => e = .returned (.bool true) ∧ w' = w.alloc (.cells #[.int .u32 a, .int .u32 b, .int .u8 p, .int .u16 sp, .int .u16 dp, .int .u8 f] 28) := by
  go_enter Tryd.func32, Tryd.ntmps32
  go_wp2
  go_ret
  exact ⟨rfl, rfl⟩

set_option maxHeartbeats 800000 in
theorem may_icmp_x0 (a b p sp dp f : Int) (w : World) (q6 : (p == 6) = false) (q17 : (p == 17) = false) (q1 : (p == 1) = true) (qd : (sp == dp) = false) (q8 : (f == 8) = false) (q0 : (f == 0) = true) :
    Calls Tryd.prog 32 #[.agg #[.int .u32 a, .int .u32 b, .int .u8 p, .int .u16 sp, .int .u16 dp, .int .u8 f]] w fun e w' => e = .returned (.bool false) ∧ w' = w.alloc (.cells #[.int .u32 a, .int .u32 b, .int .u8 p, .int .u16 sp, .int .u16 dp, .int .u8 f] 28) := by
  go_enter Tryd.func32, Tryd.ntmps32
  go_wp2
  go_ret
  exact ⟨rfl, rfl⟩

set_option maxHeartbeats 800000 in
theorem may_icmp_dn (a b p sp dp f : Int) (w : World) (q6 : (p == 6) = false) (q17 : (p == 17) = false) (q1 : (p == 1) = true) (qd : (sp == dp) = true) (q8 : (f == 8) = false) (q0 : (f == 0) = false) :
    Calls Tryd.prog 32 #[.agg #[.int .u32 a, .int .u32 b, .int .u8 p, .int .u16 sp, .int .u16 dp, .int .u8 f]] w fun e w' => e = .returned (.bool (sp == 0)) ∧ w' = w.alloc (.cells #[.int .u32 a, .int .u32 b, .int .u8 p, .int .u16 sp, .int .u16 dp, .int .u8 f] 28) := by
  go_enter Tryd.func32, Tryd.ntmps32
  go_wp2
  go_ret
  exact ⟨rfl, rfl⟩

set_option maxHeartbeats 800000 in
theorem may_icmp_xn (a b p sp dp f : Int) (w : World) (q6 : (p == 6) = false) (q17 : (p == 17) = false) (q1 : (p == 1) = true) (qd : (sp == dp) = false) (q8 : (f == 8) = false) (q0 : (f == 0) = false) :
    Calls Tryd.prog 32 #[.agg #[.int .u32 a, .int .u32 b, .int .u8 p, .int .u16 sp, .int .u16 dp, .int .u8 f]] w fun e w' => e = .returned (.bool false) ∧ w' = w.alloc (.cells #[.int .u32 a, .int .u32 b, .int .u8 p, .int .u16 sp, .int .u16 dp, .int .u8 f] 28) := by
  go_enter Tryd.func32, Tryd.ntmps32
  go_wp2
  go_ret
  exact ⟨rfl, rfl⟩

set_option maxHeartbeats 800000 in
theorem may_other_1 (a b p sp dp f : Int) (w : World) (q6 : (p == 6) = false) (q17 : (p == 17) = false) (q1 : (p == 1) = false) (qs : (sp == 0) = false) :
    Calls Tryd.prog 32 #[.agg #[.int .u32 a, .int .u32 b, .int .u8 p, .int .u16 sp, .int .u16 dp, .int .u8 f]] w fun e w' => e = .returned (.bool false) ∧ w' = w.alloc (.cells #[.int .u32 a, .int .u32 b, .int .u8 p, .int .u16 sp, .int .u16 dp, .int .u8 f] 28) := by
  go_enter Tryd.func32, Tryd.ntmps32
  go_wp2
  go_ret
  exact ⟨rfl, rfl⟩

set_option maxHeartbeats 800000 in
theorem may_other_2 (a b p sp dp f : Int) (w : World) (q6 : (p == 6) = false) (q17 : (p == 17) = false) (q1 : (p == 1) = false) (qs : (sp == 0) = true) (qd : (dp == 0) = false) :
    Calls Tryd.prog 32 #[.agg #[.int .u32 a, .int .u32 b, .int .u8 p, .int .u16 sp, .int .u16 dp, .int .u8 f]] w fun e w' => e = .returned (.bool false) ∧ w' = w.alloc (.cells #[.int .u32 a, .int .u32 b, .int .u8 p, .int .u16 sp, .int .u16 dp, .int .u8 f] 28) := by
  go_enter Tryd.func32, Tryd.ntmps32
  go_wp2
  go_ret
  exact ⟨rfl, rfl⟩

set_option maxHeartbeats 800000 in
theorem may_other_3 (a b p sp dp f : Int) (w : World) (q6 : (p == 6) = false) (q17 : (p == 17) = false) (q1 : (p == 1) = false) (qs : (sp == 0) = true) (qd : (dp == 0) = true) :
    Calls Tryd.prog 32 #[.agg #[.int .u32 a, .int .u32 b, .int .u8 p, .int .u16 sp, .int .u16 dp, .int .u8 f]] w fun e w' => e = .returned (.bool (f == 0)) ∧ w' = w.alloc (.cells #[.int .u32 a, .int .u32 b, .int .u8 p, .int .u16 sp, .int .u16 dp, .int .u8 f] 28) := by
  go_enter Tryd.func32, Tryd.ntmps32
  go_wp2
  go_ret
  exact ⟨rfl, rfl⟩

theorem may_any (a b p sp dp f : Int) (w : World) :
    Calls Tryd.prog 32 #[.agg #[.int .u32 a, .int .u32 b, .int .u8 p, .int .u16 sp, .int .u16 dp, .int .u8 f]] w fun e w' => e = .returned (.bool (mayB p sp dp f)) ∧ w' = w.alloc (.cells #[.int .u32 a, .int .u32 b, .int .u8 p, .int .u16 sp, .int .u16 dp, .int .u8 f] 28) := by
  by_cases p6 : p = 6
  · rw [show mayB p sp dp f = decide (f < 64) from by simp [mayB, p6]; omega]; exact may_tcp a b p sp dp f w (by simp [p6])
  have q6 : (p == 6) = false := by simpa using p6
  by_cases p17 : p = 17
  · rw [show mayB p sp dp f = (f == 0) from by simp [mayB, p17]]; exact may_udp a b p sp dp f w q6 (by simp [p17])
  have q17 : (p == 17) = false := by simpa using p17
  by_cases p1 : p = 1
  · have q1 : (p == 1) = true := by simp [p1]
    have e0 : mayB p sp dp f = (sp == dp && ((f == 8 || f == 0) || sp == 0)) := by simp [mayB, p1]
    cases qd : (sp == dp) <;> cases q8 : (f == 8)
    · cases q0 : (f == 0)
      · rw [show mayB p sp dp f = false from by rw [e0, qd]; rfl]; exact may_icmp_xn a b p sp dp f w q6 q17 q1 qd q8 q0
      · rw [show mayB p sp dp f = false from by rw [e0, qd]; rfl]; exact may_icmp_x0 a b p sp dp f w q6 q17 q1 qd q8 q0
    · rw [show mayB p sp dp f = false from by rw [e0, qd]; rfl]; exact may_icmp_x8 a b p sp dp f w q6 q17 q1 qd q8
    · cases q0 : (f == 0)
      · rw [show mayB p sp dp f = (sp == 0) from by rw [e0, qd, q8, q0]; rfl]; exact may_icmp_dn a b p sp dp f w q6 q17 q1 qd q8 q0
      · rw [show mayB p sp dp f = true from by rw [e0, qd, q8, q0]; rfl]; exact may_icmp_d0 a b p sp dp f w q6 q17 q1 qd q8 q0
    · rw [show mayB p sp dp f = true from by rw [e0, qd, q8]; rfl]; exact may_icmp_d8 a b p sp dp f w q6 q17 q1 qd q8
  have q1 : (p == 1) = false := by simpa using p1
  have e0 : mayB p sp dp f = ((sp == 0 && dp == 0) && f == 0) := by simp [mayB, p6, p17, p1]
  cases qs : (sp == 0)
  · rw [show mayB p sp dp f = false from by rw [e0, qs]; rfl]; exact may_other_1 a b p sp dp f w q6 q17 q1 qs
  · cases qd : (dp == 0)
    · rw [show mayB p sp dp f = false from by rw [e0, qs, qd]; rfl]; exact may_other_2 a b p sp dp f w q6 q17 q1 qs qd
    · rw [show mayB p sp dp f = (f == 0) from by rw [e0, qs, qd]; rfl]; exact may_other_3 a b p sp dp f w q6 q17 q1 qs qd
end Go.Proofs.YtclpnafiiobfhaaDoor
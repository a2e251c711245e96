import Derived.Test.YtclpnafiiobfhaaGreatDoorRMeet
namespace Go.Proofs.YtclpnafiiobfhaaGreatDoor
open Go.RowKit
set_option linter.unusedVariables false
set_option linter.unusedSimpArgs false

set_option maxHeartbeats 800000 in
theorem rbehind_1_0 (c a0 a1 a2 a3 b0 b1 b2 b3 : Bool) (th t f k way : Int) (w : World) :
    Calls Tryz.prog 47 #[.agg #[.bool c, .bool a0, .bool a1, .bool a2, .bool a3, .bool b0, .bool b1, .bool b2, .bool b3, .int .i64 th], .agg #[.int .i64 1, .int .i64 0, .int .i64 t, .int .i64 f, .int .i64 k], .int .i64 way] w fun e w' => e = .returned (.agg #[.bool c, .bool true, .bool a1, .bool a2, .bool a3, .bool false, .bool b1, .bool b2, .bool b3, .int .i64 th]) ∧ RGrew3 w w' := by
  go_enter Tryz.func47, Tryz.ntmps47
  go_wp2_with fail
  refine bodyPost_ret (v := .agg #[.bool c, .bool true, .bool a1, .bool a2, .bool a3, .bool false, .bool b1, .bool b2, .bool b3, .int .i64 th]) (by simp [results, Tryz.results47, go_sem]) rfl ⟨rfl, ?_⟩
  exact ⟨_, _, _, rfl⟩

set_option maxHeartbeats 800000 in
theorem rbehind_1_1 (c a0 a1 a2 a3 b0 b1 b2 b3 : Bool) (th t f k way : Int) (w : World) :
    Calls Tryz.prog 47 #[.agg #[.bool c, .bool a0, .bool a1, .bool a2, .bool a3, .bool b0, .bool b1, .bool b2, .bool b3, .int .i64 th], .agg #[.int .i64 1, .int .i64 1, .int .i64 t, .int .i64 f, .int .i64 k], .int .i64 way] w fun e w' => e = .returned (.agg #[.bool c, .bool a0, .bool true, .bool a2, .bool a3, .bool b0, .bool false, .bool b2, .bool b3, .int .i64 th]) ∧ RGrew3 w w' := by
  go_enter Tryz.func47, Tryz.ntmps47
  go_wp2_with fail
  refine bodyPost_ret (v := .agg #[.bool c, .bool a0, .bool true, .bool a2, .bool a3, .bool b0, .bool false, .bool b2, .bool b3, .int .i64 th]) (by simp [results, Tryz.results47, go_sem]) rfl ⟨rfl, ?_⟩
  exact ⟨_, _, _, rfl⟩

set_option maxHeartbeats 800000 in
theorem rbehind_1_2 (c a0 a1 a2 a3 b0 b1 b2 b3 : Bool) (th t f k way : Int) (w : World) :
    Calls Tryz.prog 47 #[.agg #[.bool c, .bool a0, .bool a1, .bool a2, .bool a3, .bool b0, .bool b1, .bool b2, .bool b3, .int .i64 th], .agg #[.int .i64 1, .int .i64 2, .int .i64 t, .int .i64 f, .int .i64 k], .int .i64 way] w fun e w' => e = .returned (.agg #[.bool c, .bool a0, .bool a1, .bool true, .bool a3, .bool b0, .bool b1, .bool false, .bool b3, .int .i64 th]) ∧ RGrew3 w w' := by
  go_enter Tryz.func47, Tryz.ntmps47
  go_wp2_with fail
  refine bodyPost_ret (v := .agg #[.bool c, .bool a0, .bool a1, .bool true, .bool a3, .bool b0, .bool b1, .bool false, .bool b3, .int .i64 th]) (by simp [results, Tryz.results47, go_sem]) rfl ⟨rfl, ?_⟩
  exact ⟨_, _, _, rfl⟩

set_option maxHeartbeats 800000 in
theorem rbehind_1_3 (c a0 a1 a2 a3 b0 b1 b2 b3 : Bool) (th t f k way : Int) (w : World) :
    Calls Tryz.prog 47 #[.agg #[.bool c, .bool a0, .bool a1, .bool a2, .bool a3, .bool b0, .bool b1, .bool b2, .bool b3, .int .i64 th], .agg #[.int .i64 1, .int .i64 3, .int .i64 t, .int .i64 f, .int .i64 k], .int .i64 way] w fun e w' => e = .returned (.agg #[.bool c, .bool a0, .bool a1, .bool a2, .bool true, .bool b0, .bool b1, .bool b2, .bool false, .int .i64 th]) ∧ RGrew3 w w' := by
  go_enter Tryz.func47, Tryz.ntmps47
  go_wp2_with fail
  refine bodyPost_ret (v := .agg #[.bool c, .bool a0, .bool a1, .bool a2, .bool true, .bool b0, .bool b1, .bool b2, .bool false, .int .i64 th]) (by simp [results, Tryz.results47, go_sem]) rfl ⟨rfl, ?_⟩
  exact ⟨_, _, _, rfl⟩

set_option maxHeartbeats 800000 in
theorem rbehind_2_0 (c a0 a1 a2 a3 b0 b1 b2 b3 : Bool) (th t f k way : Int) (w : World) :
    Calls Tryz.prog 47 #[.agg #[.bool c, .bool a0, .bool a1, .bool a2, .bool a3, .bool b0, .bool b1, .bool b2, .bool b3, .int .i64 th], .agg #[.int .i64 2, .int .i64 0, .int .i64 t, .int .i64 f, .int .i64 k], .int .i64 way] w fun e w' => e = .returned (.agg #[.bool c, .bool true, .bool a1, .bool a2, .bool a3, .bool false, .bool b1, .bool b2, .bool b3, .int .i64 th]) ∧ RGrew3 w w' := by
  go_enter Tryz.func47, Tryz.ntmps47
  go_wp2_with fail
  refine bodyPost_ret (v := .agg #[.bool c, .bool true, .bool a1, .bool a2, .bool a3, .bool false, .bool b1, .bool b2, .bool b3, .int .i64 th]) (by simp [results, Tryz.results47, go_sem]) rfl ⟨rfl, ?_⟩
  exact ⟨_, _, _, rfl⟩

set_option maxHeartbeats 800000 in
theorem rbehind_2_1 (c a0 a1 a2 a3 b0 b1 b2 b3 : Bool) (th t f k way : Int) (w : World) :
    Calls Tryz.prog 47 #[.agg #[.bool c, .bool a0, .bool a1, .bool a2, .bool a3, .bool b0, .bool b1, .bool b2, .bool b3, .int .i64 th], .agg #[.int .i64 2, .int .i64 1, .int .i64 t, .int .i64 f, .int .i64 k], .int .i64 way] w fun e w' => e = .returned (.agg #[.bool c, .bool a0, .bool true, .bool a2, .bool a3, .bool b0, .bool false, .bool b2, .bool b3, .int .i64 th]) ∧ RGrew3 w w' := by
  go_enter Tryz.func47, Tryz.ntmps47
  go_wp2_with fail
  refine bodyPost_ret (v := .agg #[.bool c, .bool a0, .bool true, .bool a2, .bool a3, .bool b0, .bool false, .bool b2, .bool b3, .int .i64 th]) (by simp [results, Tryz.results47, go_sem]) rfl ⟨rfl, ?_⟩
  exact ⟨_, _, _, rfl⟩

set_option maxHeartbeats 800000 in
theorem rbehind_2_2 (c a0 a1 a2 a3 b0 b1 b2 b3 : Bool) (th t f k way : Int) (w : World) :
    Calls Tryz.prog 47 #[.agg #[.bool c, .bool a0, .bool a1, .bool a2, .bool a3, .bool b0, .bool b1, .bool b2, .bool b3, .int .i64 th], .agg #[.int .i64 2, .int .i64 2, .int .i64 t, .int .i64 f, .int .i64 k], .int .i64 way] w fun e w' => e = .returned (.agg #[.bool c, .bool a0, .bool a1, .bool true, .bool a3, .bool b0, .bool b1, .bool false, .bool b3, .int .i64 th]) ∧ RGrew3 w w' := by
  go_enter Tryz.func47, Tryz.ntmps47
  go_wp2_with fail
  refine bodyPost_ret (v := .agg #[.bool c, .bool a0, .bool a1, .bool true, .bool a3, .bool b0, .bool b1, .bool false, .bool b3, .int .i64 th]) (by simp [results, Tryz.results47, go_sem]) rfl ⟨rfl, ?_⟩
  exact ⟨_, _, _, rfl⟩

set_option maxHeartbeats 800000 in
theorem rbehind_2_3 (c a0 a1 a2 a3 b0 b1 b2 b3 : Bool) (th t f k way : Int) (w : World) :
    Calls Tryz.prog 47 #[.agg #[.bool c, .bool a0, .bool a1, .bool a2, .bool a3, .bool b0, .bool b1, .bool b2, .bool b3, .int .i64 th], .agg #[.int .i64 2, .int .i64 3, .int .i64 t, .int .i64 f, .int .i64 k], .int .i64 way] w fun e w' => e = .returned (.agg #[.bool c, .bool a0, .bool a1, .bool a2, .bool true, .bool b0, .bool b1, .bool b2, .bool false, .int .i64 th]) ∧ RGrew3 w w' := by
  go_enter Tryz.func47, Tryz.ntmps47
  go_wp2_with fail
  refine bodyPost_ret (v := .agg #[.bool c, .bool a0, .bool a1, .bool a2, .bool true, .bool b0, .bool b1, .bool b2, .bool false, .int .i64 th]) (by simp [results, Tryz.results47, go_sem]) rfl ⟨rfl, ?_⟩
  exact ⟨_, _, _, rfl⟩

set_option maxHeartbeats 800000 in
theorem rbehind_3_0 (c a0 a1 a2 a3 b0 b1 b2 b3 : Bool) (th t f k way : Int) (w : World) :
    Calls Tryz.prog 47 #[.agg #[.bool c, .bool a0, .bool a1, .bool a2, .bool a3, .bool b0, .bool b1, .bool b2, .bool b3, .int .i64 th], .agg #[.int .i64 3, .int .i64 0, .int .i64 t, .int .i64 f, .int .i64 k], .int .i64 way] w fun e w' => e = .returned (.agg #[.bool c, .bool true, .bool a1, .bool a2, .bool a3, .bool false, .bool b1, .bool b2, .bool b3, .int .i64 th]) ∧ RGrew3 w w' := by
  go_enter Tryz.func47, Tryz.ntmps47
  go_wp2_with fail
  refine bodyPost_ret (v := .agg #[.bool c, .bool true, .bool a1, .bool a2, .bool a3, .bool false, .bool b1, .bool b2, .bool b3, .int .i64 th]) (by simp [results, Tryz.results47, go_sem]) rfl ⟨rfl, ?_⟩
  exact ⟨_, _, _, rfl⟩

set_option maxHeartbeats 800000 in
theorem rbehind_3_1 (c a0 a1 a2 a3 b0 b1 b2 b3 : Bool) (th t f k way : Int) (w : World) :
    Calls Tryz.prog 47 #[.agg #[.bool c, .bool a0, .bool a1, .bool a2, .bool a3, .bool b0, .bool b1, .bool b2, .bool b3, .int .i64 th], .agg #[.int .i64 3, .int .i64 1, .int .i64 t, .int .i64 f, .int .i64 k], .int .i64 way] w fun e w' => e = .returned (.agg #[.bool c, .bool a0, .bool true, .bool a2, .bool a3, .bool b0, .bool false, .bool b2, .bool b3, .int .i64 th]) ∧ RGrew3 w w' := by
  go_enter Tryz.func47, Tryz.ntmps47
  go_wp2_with fail
  refine bodyPost_ret (v := .agg #[.bool c, .bool a0, .bool true, .bool a2, .bool a3, .bool b0, .bool false, .bool b2, .bool b3, .int .i64 th]) (by simp [results, Tryz.results47, go_sem]) rfl ⟨rfl, ?_⟩
  exact ⟨_, _, _, rfl⟩

set_option maxHeartbeats 800000 in
theorem rbehind_3_2 (c a0 a1 a2 a3 b0 b1 b2 b3 : Bool) (th t f k way : Int) (w : World) :
    Calls Tryz.prog 47 #[.agg #[.bool c, .bool a0, .bool a1, .bool a2, .bool a3, .bool b0, .bool b1, .bool b2, .bool b3, .int .i64 th], .agg #[.int .i64 3, .int .i64 2, .int .i64 t, .int .i64 f, .int .i64 k], .int .i64 way] w fun e w' => e = .returned (.agg #[.bool c, .bool a0, .bool a1, .bool true, .bool a3, .bool b0, .bool b1, .bool false, .bool b3, .int .i64 th]) ∧ RGrew3 w w' := by
  go_enter Tryz.func47, Tryz.ntmps47
  go_wp2_with fail
  refine bodyPost_ret (v := .agg #[.bool c, .bool a0, .bool a1, .bool true, .bool a3, .bool b0, .bool b1, .bool false, .bool b3, .int .i64 th]) (by simp [results, Tryz.results47, go_sem]) rfl ⟨rfl, ?_⟩
  exact ⟨_, _, _, rfl⟩

set_option maxHeartbeats 800000 in
theorem rbehind_3_3 (c a0 a1 a2 a3 b0 b1 b2 b3 : Bool) (th t f k way : Int) (w : World) :
    Calls Tryz.prog 47 #[.agg #[.bool c, .bool a0, .bool a1, .bool a2, .bool a3, .bool b0, .bool b1, .bool b2, .bool b3, .int .i64 th], .agg #[.int .i64 3, .int .i64 3, .int .i64 t, .int .i64 f, .int .i64 k], .int .i64 way] w fun e w' => e = .returned (.agg #[.bool c, .bool a0, .bool a1, .bool a2, .bool true, .bool b0, .bool b1, .bool b2, .bool false, .int .i64 th]) ∧ RGrew3 w w' := by
  go_enter Tryz.func47, Tryz.ntmps47
  go_wp2_with fail
  refine bodyPost_ret (v := .agg #[.bool c, .bool a0, .bool a1, .bool a2, .bool true, .bool b0, .bool b1, .bool b2, .bool false, .int .i64 th]) (by simp [results, Tryz.results47, go_sem]) rfl ⟨rfl, ?_⟩
  exact ⟨_, _, _, rfl⟩

set_option maxHeartbeats 800000 in
theorem rbehind_4_0 (c a0 a1 a2 a3 b0 b1 b2 b3 : Bool) (th t f k way : Int) (w : World) :
    Calls Tryz.prog 47 #[.agg #[.bool c, .bool a0, .bool a1, .bool a2, .bool a3, .bool b0, .bool b1, .bool b2, .bool b3, .int .i64 th], .agg #[.int .i64 4, .int .i64 0, .int .i64 t, .int .i64 f, .int .i64 k], .int .i64 way] w fun e w' => e = .returned (.agg #[.bool c, .bool true, .bool a1, .bool a2, .bool a3, .bool false, .bool b1, .bool b2, .bool b3, .int .i64 th]) ∧ RGrew3 w w' := by
  go_enter Tryz.func47, Tryz.ntmps47
  go_wp2_with fail
  refine bodyPost_ret (v := .agg #[.bool c, .bool true, .bool a1, .bool a2, .bool a3, .bool false, .bool b1, .bool b2, .bool b3, .int .i64 th]) (by simp [results, Tryz.results47, go_sem]) rfl ⟨rfl, ?_⟩
  exact ⟨_, _, _, rfl⟩

set_option maxHeartbeats 800000 in
theorem rbehind_4_1 (c a0 a1 a2 a3 b0 b1 b2 b3 : Bool) (th t f k way : Int) (w : World) :
    Calls Tryz.prog 47 #[.agg #[.bool c, .bool a0, .bool a1, .bool a2, .bool a3, .bool b0, .bool b1, .bool b2, .bool b3, .int .i64 th], .agg #[.int .i64 4, .int .i64 1, .int .i64 t, .int .i64 f, .int .i64 k], .int .i64 way] w fun e w' => e = .returned (.agg #[.bool c, .bool a0, .bool true, .bool a2, .bool a3, .bool b0, .bool false, .bool b2, .bool b3, .int .i64 th]) ∧ RGrew3 w w' := by
  go_enter Tryz.func47, Tryz.ntmps47
  go_wp2_with fail
  refine bodyPost_ret (v := .agg #[.bool c, .bool a0, .bool true, .bool a2, .bool a3, .bool b0, .bool false, .bool b2, .bool b3, .int .i64 th]) (by simp [results, Tryz.results47, go_sem]) rfl ⟨rfl, ?_⟩
  exact ⟨_, _, _, rfl⟩

set_option maxHeartbeats 800000 in
theorem rbehind_4_2 (c a0 a1 a2 a3 b0 b1 b2 b3 : Bool) (th t f k way : Int) (w : World) :
    Calls Tryz.prog 47 #[.agg #[.bool c, .bool a0, .bool a1, .bool a2, .bool a3, .bool b0, .bool b1, .bool b2, .bool b3, .int .i64 th], .agg #[.int .i64 4, .int .i64 2, .int .i64 t, .int .i64 f, .int .i64 k], .int .i64 way] w fun e w' => e = .returned (.agg #[.bool c, .bool a0, .bool a1, .bool true, .bool a3, .bool b0, .bool b1, .bool false, .bool b3, .int .i64 th]) ∧ RGrew3 w w' := by
  go_enter Tryz.func47, Tryz.ntmps47
  go_wp2_with fail
  refine bodyPost_ret (v := .agg #[.bool c, .bool a0, .bool a1, .bool true, .bool a3, .bool b0, .bool b1, .bool false, .bool b3, .int .i64 th]) (by simp [results, Tryz.results47, go_sem]) rfl ⟨rfl, ?_⟩
  exact ⟨_, _, _, rfl⟩

set_option maxHeartbeats 800000 in
theorem rbehind_4_3 (c a0 a1 a2 a3 b0 b1 b2 b3 : Bool) (th t f k way : Int) (w : World) :
    Calls Tryz.prog 47 #[.agg #[.bool c, .bool a0, .bool a1, .bool a2, .bool a3, .bool b0, .bool b1, .bool b2, .bool b3, .int .i64 th], .agg #[.int .i64 4, .int .i64 3, .int .i64 t, .int .i64 f, .int .i64 k], .int .i64 way] w fun e w' => e = .returned (.agg #[.bool c, .bool a0, .bool a1, .bool a2, .bool true, .bool b0, .bool b1, .bool b2, .bool false, .int .i64 th]) ∧ RGrew3 w w' := by
  go_enter Tryz.func47, Tryz.ntmps47
  go_wp2_with fail
  refine bodyPost_ret (v := .agg #[.bool c, .bool a0, .bool a1, .bool a2, .bool true, .bool b0, .bool b1, .bool b2, .bool false, .int .i64 th]) (by simp [results, Tryz.results47, go_sem]) rfl ⟨rfl, ?_⟩
  exact ⟨_, _, _, rfl⟩

set_option maxHeartbeats 800000 in
theorem rbehind_5_0 (c a0 a1 a2 a3 b0 b1 b2 b3 : Bool) (th t f k way : Int) (w : World) :
    Calls Tryz.prog 47 #[.agg #[.bool c, .bool a0, .bool a1, .bool a2, .bool a3, .bool b0, .bool b1, .bool b2, .bool b3, .int .i64 th], .agg #[.int .i64 5, .int .i64 0, .int .i64 t, .int .i64 f, .int .i64 k], .int .i64 way] w fun e w' => e = .returned (.agg #[.bool c, .bool true, .bool a1, .bool a2, .bool a3, .bool true, .bool b1, .bool b2, .bool b3, .int .i64 th]) ∧ RGrew3 w w' := by
  go_enter Tryz.func47, Tryz.ntmps47
  go_wp2_with fail
  refine bodyPost_ret (v := .agg #[.bool c, .bool true, .bool a1, .bool a2, .bool a3, .bool true, .bool b1, .bool b2, .bool b3, .int .i64 th]) (by simp [results, Tryz.results47, go_sem]) rfl ⟨rfl, ?_⟩
  exact ⟨_, _, _, rfl⟩

set_option maxHeartbeats 800000 in
theorem rbehind_5_1 (c a0 a1 a2 a3 b0 b1 b2 b3 : Bool) (th t f k way : Int) (w : World) :
    Calls Tryz.prog 47 #[.agg #[.bool c, .bool a0, .bool a1, .bool a2, .bool a3, .bool b0, .bool b1, .bool b2, .bool b3, .int .i64 th], .agg #[.int .i64 5, .int .i64 1, .int .i64 t, .int .i64 f, .int .i64 k], .int .i64 way] w fun e w' => e = .returned (.agg #[.bool c, .bool a0, .bool true, .bool a2, .bool a3, .bool b0, .bool true, .bool b2, .bool b3, .int .i64 th]) ∧ RGrew3 w w' := by
  go_enter Tryz.func47, Tryz.ntmps47
  go_wp2_with fail
  refine bodyPost_ret (v := .agg #[.bool c, .bool a0, .bool true, .bool a2, .bool a3, .bool b0, .bool true, .bool b2, .bool b3, .int .i64 th]) (by simp [results, Tryz.results47, go_sem]) rfl ⟨rfl, ?_⟩
  exact ⟨_, _, _, rfl⟩

set_option maxHeartbeats 800000 in
theorem rbehind_5_2 (c a0 a1 a2 a3 b0 b1 b2 b3 : Bool) (th t f k way : Int) (w : World) :
    Calls Tryz.prog 47 #[.agg #[.bool c, .bool a0, .bool a1, .bool a2, .bool a3, .bool b0, .bool b1, .bool b2, .bool b3, .int .i64 th], .agg #[.int .i64 5, .int .i64 2, .int .i64 t, .int .i64 f, .int .i64 k], .int .i64 way] w fun e w' => e = .returned (.agg #[.bool c, .bool a0, .bool a1, .bool true, .bool a3, .bool b0, .bool b1, .bool true, .bool b3, .int .i64 th]) ∧ RGrew3 w w' := by
  go_enter Tryz.func47, Tryz.ntmps47
  go_wp2_with fail
  refine bodyPost_ret (v := .agg #[.bool c, .bool a0, .bool a1, .bool true, .bool a3, .bool b0, .bool b1, .bool true, .bool b3, .int .i64 th]) (by simp [results, Tryz.results47, go_sem]) rfl ⟨rfl, ?_⟩
  exact ⟨_, _, _, rfl⟩

set_option maxHeartbeats 800000 in
theorem rbehind_5_3 (c a0 a1 a2 a3 b0 b1 b2 b3 : Bool) (th t f k way : Int) (w : World) :
    Calls Tryz.prog 47 #[.agg #[.bool c, .bool a0, .bool a1, .bool a2, .bool a3, .bool b0, .bool b1, .bool b2, .bool b3, .int .i64 th], .agg #[.int .i64 5, .int .i64 3, .int .i64 t, .int .i64 f, .int .i64 k], .int .i64 way] w fun e w' => e = .returned (.agg #[.bool c, .bool a0, .bool a1, .bool a2, .bool true, .bool b0, .bool b1, .bool b2, .bool true, .int .i64 th]) ∧ RGrew3 w w' := by
  go_enter Tryz.func47, Tryz.ntmps47
  go_wp2_with fail
  refine bodyPost_ret (v := .agg #[.bool c, .bool a0, .bool a1, .bool a2, .bool true, .bool b0, .bool b1, .bool b2, .bool true, .int .i64 th]) (by simp [results, Tryz.results47, go_sem]) rfl ⟨rfl, ?_⟩
  exact ⟨_, _, _, rfl⟩

set_option maxHeartbeats 800000 in
theorem rbehind_6_0 (c a0 a1 a2 a3 b0 b1 b2 b3 : Bool) (th t f k way : Int) (w : World) :
    Calls Tryz.prog 47 #[.agg #[.bool c, .bool a0, .bool a1, .bool a2, .bool a3, .bool b0, .bool b1, .bool b2, .bool b3, .int .i64 th], .agg #[.int .i64 6, .int .i64 0, .int .i64 t, .int .i64 f, .int .i64 k], .int .i64 way] w fun e w' => e = .returned (.agg #[.bool c, .bool a0, .bool a1, .bool a2, .bool a3, .bool false, .bool b1, .bool b2, .bool b3, .int .i64 th]) ∧ RGrew3 w w' := by
  go_enter Tryz.func47, Tryz.ntmps47
  go_wp2_with fail
  refine bodyPost_ret (v := .agg #[.bool c, .bool a0, .bool a1, .bool a2, .bool a3, .bool false, .bool b1, .bool b2, .bool b3, .int .i64 th]) (by simp [results, Tryz.results47, go_sem]) rfl ⟨rfl, ?_⟩
  exact ⟨_, _, _, rfl⟩

set_option maxHeartbeats 800000 in
theorem rbehind_6_1 (c a0 a1 a2 a3 b0 b1 b2 b3 : Bool) (th t f k way : Int) (w : World) :
    Calls Tryz.prog 47 #[.agg #[.bool c, .bool a0, .bool a1, .bool a2, .bool a3, .bool b0, .bool b1, .bool b2, .bool b3, .int .i64 th], .agg #[.int .i64 6, .int .i64 1, .int .i64 t, .int .i64 f, .int .i64 k], .int .i64 way] w fun e w' => e = .returned (.agg #[.bool c, .bool a0, .bool a1, .bool a2, .bool a3, .bool b0, .bool false, .bool b2, .bool b3, .int .i64 th]) ∧ RGrew3 w w' := by
  go_enter Tryz.func47, Tryz.ntmps47
  go_wp2_with fail
  refine bodyPost_ret (v := .agg #[.bool c, .bool a0, .bool a1, .bool a2, .bool a3, .bool b0, .bool false, .bool b2, .bool b3, .int .i64 th]) (by simp [results, Tryz.results47, go_sem]) rfl ⟨rfl, ?_⟩
  exact ⟨_, _, _, rfl⟩

set_option maxHeartbeats 800000 in
theorem rbehind_6_2 (c a0 a1 a2 a3 b0 b1 b2 b3 : Bool) (th t f k way : Int) (w : World) :
    Calls Tryz.prog 47 #[.agg #[.bool c, .bool a0, .bool a1, .bool a2, .bool a3, .bool b0, .bool b1, .bool b2, .bool b3, .int .i64 th], .agg #[.int .i64 6, .int .i64 2, .int .i64 t, .int .i64 f, .int .i64 k], .int .i64 way] w fun e w' => e = .returned (.agg #[.bool c, .bool a0, .bool a1, .bool a2, .bool a3, .bool b0, .bool b1, .bool false, .bool b3, .int .i64 th]) ∧ RGrew3 w w' := by
  go_enter Tryz.func47, Tryz.ntmps47
  go_wp2_with fail
  refine bodyPost_ret (v := .agg #[.bool c, .bool a0, .bool a1, .bool a2, .bool a3, .bool b0, .bool b1, .bool false, .bool b3, .int .i64 th]) (by simp [results, Tryz.results47, go_sem]) rfl ⟨rfl, ?_⟩
  exact ⟨_, _, _, rfl⟩

set_option maxHeartbeats 800000 in
theorem rbehind_6_3 (c a0 a1 a2 a3 b0 b1 b2 b3 : Bool) (th t f k way : Int) (w : World) :
    Calls Tryz.prog 47 #[.agg #[.bool c, .bool a0, .bool a1, .bool a2, .bool a3, .bool b0, .bool b1, .bool b2, .bool b3, .int .i64 th], .agg #[.int .i64 6, .int .i64 3, .int .i64 t, .int .i64 f, .int .i64 k], .int .i64 way] w fun e w' => e = .returned (.agg #[.bool c, .bool a0, .bool a1, .bool a2, .bool a3, .bool b0, .bool b1, .bool b2, .bool false, .int .i64 th]) ∧ RGrew3 w w' := by
  go_enter Tryz.func47, Tryz.ntmps47
  go_wp2_with fail
  refine bodyPost_ret (v := .agg #[.bool c, .bool a0, .bool a1, .bool a2, .bool a3, .bool b0, .bool b1, .bool b2, .bool false, .int .i64 th]) (by simp [results, Tryz.results47, go_sem]) rfl ⟨rfl, ?_⟩
  exact ⟨_, _, _, rfl⟩

set_option maxHeartbeats 800000 in
theorem rbehind_7_0 (c a0 a1 a2 a3 b0 b1 b2 b3 : Bool) (th t f k way : Int) (w : World) :
    Calls Tryz.prog 47 #[.agg #[.bool c, .bool a0, .bool a1, .bool a2, .bool a3, .bool b0, .bool b1, .bool b2, .bool b3, .int .i64 th], .agg #[.int .i64 7, .int .i64 0, .int .i64 t, .int .i64 f, .int .i64 k], .int .i64 way] w fun e w' => e = .returned (.agg #[.bool c, .bool a0, .bool a1, .bool a2, .bool a3, .bool false, .bool b1, .bool b2, .bool b3, .int .i64 th]) ∧ RGrew3 w w' := by
  go_enter Tryz.func47, Tryz.ntmps47
  go_wp2_with fail
  refine bodyPost_ret (v := .agg #[.bool c, .bool a0, .bool a1, .bool a2, .bool a3, .bool false, .bool b1, .bool b2, .bool b3, .int .i64 th]) (by simp [results, Tryz.results47, go_sem]) rfl ⟨rfl, ?_⟩
  exact ⟨_, _, _, rfl⟩

set_option maxHeartbeats 800000 in
theorem rbehind_7_1 (c a0 a1 a2 a3 b0 b1 b2 b3 : Bool) (th t f k way : Int) (w : World) :
    Calls Tryz.prog 47 #[.agg #[.bool c, .bool a0, .bool a1, .bool a2, .bool a3, .bool b0, .bool b1, .bool b2, .bool b3, .int .i64 th], .agg #[.int .i64 7, .int .i64 1, .int .i64 t, .int .i64 f, .int .i64 k], .int .i64 way] w fun e w' => e = .returned (.agg #[.bool c, .bool a0, .bool a1, .bool a2, .bool a3, .bool b0, .bool false, .bool b2, .bool b3, .int .i64 th]) ∧ RGrew3 w w' := by
  go_enter Tryz.func47, Tryz.ntmps47
  go_wp2_with fail
  refine bodyPost_ret (v := .agg #[.bool c, .bool a0, .bool a1, .bool a2, .bool a3, .bool b0, .bool false, .bool b2, .bool b3, .int .i64 th]) (by simp [results, Tryz.results47, go_sem]) rfl ⟨rfl, ?_⟩
  exact ⟨_, _, _, rfl⟩

set_option maxHeartbeats 800000 in
theorem rbehind_7_2 (c a0 a1 a2 a3 b0 b1 b2 b3 : Bool) (th t f k way : Int) (w : World) :
    Calls Tryz.prog 47 #[.agg #[.bool c, .bool a0, .bool a1, .bool a2, .bool a3, .bool b0, .bool b1, .bool b2, .bool b3, .int .i64 th], .agg #[.int .i64 7, .int .i64 2, .int .i64 t, .int .i64 f, .int .i64 k], .int .i64 way] w fun e w' => e = .returned (.agg #[.bool c, .bool a0, .bool a1, .bool a2, .bool a3, .bool b0, .bool b1, .bool false, .bool b3, .int .i64 th]) ∧ RGrew3 w w' := by
  go_enter Tryz.func47, Tryz.ntmps47
  go_wp2_with fail
  refine bodyPost_ret (v := .agg #[.bool c, .bool a0, .bool a1, .bool a2, .bool a3, .bool b0, .bool b1, .bool false, .bool b3, .int .i64 th]) (by simp [results, Tryz.results47, go_sem]) rfl ⟨rfl, ?_⟩
  exact ⟨_, _, _, rfl⟩

set_option maxHeartbeats 800000 in
theorem rbehind_7_3 (c a0 a1 a2 a3 b0 b1 b2 b3 : Bool) (th t f k way : Int) (w : World) :
    Calls Tryz.prog 47 #[.agg #[.bool c, .bool a0, .bool a1, .bool a2, .bool a3, .bool b0, .bool b1, .bool b2, .bool b3, .int .i64 th], .agg #[.int .i64 7, .int .i64 3, .int .i64 t, .int .i64 f, .int .i64 k], .int .i64 way] w fun e w' => e = .returned (.agg #[.bool c, .bool a0, .bool a1, .bool a2, .bool a3, .bool b0, .bool b1, .bool b2, .bool false, .int .i64 th]) ∧ RGrew3 w w' := by
  go_enter Tryz.func47, Tryz.ntmps47
  go_wp2_with fail
  refine bodyPost_ret (v := .agg #[.bool c, .bool a0, .bool a1, .bool a2, .bool a3, .bool b0, .bool b1, .bool b2, .bool false, .int .i64 th]) (by simp [results, Tryz.results47, go_sem]) rfl ⟨rfl, ?_⟩
  exact ⟨_, _, _, rfl⟩

set_option maxHeartbeats 800000 in
theorem rbehind_8_w (c a0 a1 a2 a3 b0 b1 b2 b3 : Bool) (th r t f k way : Int) (w : World) (hw : (way == 0) = false) :
    Calls Tryz.prog 47 #[.agg #[.bool c, .bool a0, .bool a1, .bool a2, .bool a3, .bool b0, .bool b1, .bool b2, .bool b3, .int .i64 th], .agg #[.int .i64 8, .int .i64 r, .int .i64 t, .int .i64 f, .int .i64 k], .int .i64 way] w fun e w' => e = .returned (.agg #[.bool c, .bool a0, .bool a1, .bool a2, .bool a3, .bool b0, .bool b1, .bool b2, .bool b3, .int .i64 th]) ∧ RGrew3 w w' := by
  go_enter Tryz.func47, Tryz.ntmps47
  go_wp2_with fail
  refine bodyPost_ret (v := .agg #[.bool c, .bool a0, .bool a1, .bool a2, .bool a3, .bool b0, .bool b1, .bool b2, .bool b3, .int .i64 th]) (by simp [results, Tryz.results47, go_sem]) rfl ⟨rfl, ?_⟩
  exact ⟨_, _, _, rfl⟩

set_option maxHeartbeats 800000 in
theorem rbehind_8_0_n (c a0 a1 a2 a3 b1 b2 b3 : Bool) (th t f k way : Int) (w : World) (hw : (way == 0) = true) :
    Calls Tryz.prog 47 #[.agg #[.bool c, .bool a0, .bool a1, .bool a2, .bool a3, .bool false, .bool b1, .bool b2, .bool b3, .int .i64 th], .agg #[.int .i64 8, .int .i64 0, .int .i64 t, .int .i64 f, .int .i64 k], .int .i64 way] w fun e w' => e = .returned (.agg #[.bool c, .bool a0, .bool a1, .bool a2, .bool a3, .bool false, .bool b1, .bool b2, .bool b3, .int .i64 th]) ∧ RGrew3 w w' := by
  go_enter Tryz.func47, Tryz.ntmps47
  go_wp2_with fail
  refine bodyPost_ret (v := .agg #[.bool c, .bool a0, .bool a1, .bool a2, .bool a3, .bool false, .bool b1, .bool b2, .bool b3, .int .i64 th]) (by simp [results, Tryz.results47, go_sem]) rfl ⟨rfl, ?_⟩
  exact ⟨_, _, _, rfl⟩

set_option maxHeartbeats 800000 in
theorem rbehind_8_0_k (c a0 a1 a2 a3 b1 b2 b3 : Bool) (th t f k way : Int) (w : World) (hw : (way == 0) = true) (hk : th < k) :
    Calls Tryz.prog 47 #[.agg #[.bool c, .bool a0, .bool a1, .bool a2, .bool a3, .bool true, .bool b1, .bool b2, .bool b3, .int .i64 th], .agg #[.int .i64 8, .int .i64 0, .int .i64 t, .int .i64 f, .int .i64 k], .int .i64 way] w fun e w' => e = .returned (.agg #[.bool c, .bool a0, .bool a1, .bool a2, .bool a3, .bool true, .bool b1, .bool b2, .bool b3, .int .i64 k]) ∧ RGrew3 w w' := by
  go_enter Tryz.func47, Tryz.ntmps47
  go_wp2_with fail
  refine bodyPost_ret (v := .agg #[.bool c, .bool a0, .bool a1, .bool a2, .bool a3, .bool true, .bool b1, .bool b2, .bool b3, .int .i64 k]) (by simp [results, Tryz.results47, go_sem]) rfl ⟨rfl, ?_⟩
  exact ⟨_, _, _, rfl⟩

set_option maxHeartbeats 800000 in
theorem rbehind_8_0_t (c a0 a1 a2 a3 b1 b2 b3 : Bool) (th t f k way : Int) (w : World) (hw : (way == 0) = true) (hk : k ≤ th) :
    Calls Tryz.prog 47 #[.agg #[.bool c, .bool a0, .bool a1, .bool a2, .bool a3, .bool true, .bool b1, .bool b2, .bool b3, .int .i64 th], .agg #[.int .i64 8, .int .i64 0, .int .i64 t, .int .i64 f, .int .i64 k], .int .i64 way] w fun e w' => e = .returned (.agg #[.bool c, .bool a0, .bool a1, .bool a2, .bool a3, .bool true, .bool b1, .bool b2, .bool b3, .int .i64 th]) ∧ RGrew3 w w' := by
  go_enter Tryz.func47, Tryz.ntmps47
  go_wp2_with fail
  refine bodyPost_ret (v := .agg #[.bool c, .bool a0, .bool a1, .bool a2, .bool a3, .bool true, .bool b1, .bool b2, .bool b3, .int .i64 th]) (by simp [results, Tryz.results47, go_sem]) rfl ⟨rfl, ?_⟩
  exact ⟨_, _, _, rfl⟩

set_option maxHeartbeats 800000 in
theorem rbehind_8_1_n (c a0 a1 a2 a3 b0 b2 b3 : Bool) (th t f k way : Int) (w : World) (hw : (way == 0) = true) :
    Calls Tryz.prog 47 #[.agg #[.bool c, .bool a0, .bool a1, .bool a2, .bool a3, .bool b0, .bool false, .bool b2, .bool b3, .int .i64 th], .agg #[.int .i64 8, .int .i64 1, .int .i64 t, .int .i64 f, .int .i64 k], .int .i64 way] w fun e w' => e = .returned (.agg #[.bool c, .bool a0, .bool a1, .bool a2, .bool a3, .bool b0, .bool false, .bool b2, .bool b3, .int .i64 th]) ∧ RGrew3 w w' := by
  go_enter Tryz.func47, Tryz.ntmps47
  go_wp2_with fail
  refine bodyPost_ret (v := .agg #[.bool c, .bool a0, .bool a1, .bool a2, .bool a3, .bool b0, .bool false, .bool b2, .bool b3, .int .i64 th]) (by simp [results, Tryz.results47, go_sem]) rfl ⟨rfl, ?_⟩
  exact ⟨_, _, _, rfl⟩

set_option maxHeartbeats 800000 in
theorem rbehind_8_1_k (c a0 a1 a2 a3 b0 b2 b3 : Bool) (th t f k way : Int) (w : World) (hw : (way == 0) = true) (hk : th < k) :
    Calls Tryz.prog 47 #[.agg #[.bool c, .bool a0, .bool a1, .bool a2, .bool a3, .bool b0, .bool true, .bool b2, .bool b3, .int .i64 th], .agg #[.int .i64 8, .int .i64 1, .int .i64 t, .int .i64 f, .int .i64 k], .int .i64 way] w fun e w' => e = .returned (.agg #[.bool c, .bool a0, .bool a1, .bool a2, .bool a3, .bool b0, .bool true, .bool b2, .bool b3, .int .i64 k]) ∧ RGrew3 w w' := by
  go_enter Tryz.func47, Tryz.ntmps47
  go_wp2_with fail
  refine bodyPost_ret (v := .agg #[.bool c, .bool a0, .bool a1, .bool a2, .bool a3, .bool b0, .bool true, .bool b2, .bool b3, .int .i64 k]) (by simp [results, Tryz.results47, go_sem]) rfl ⟨rfl, ?_⟩
  exact ⟨_, _, _, rfl⟩

set_option maxHeartbeats 800000 in
theorem rbehind_8_1_t (c a0 a1 a2 a3 b0 b2 b3 : Bool) (th t f k way : Int) (w : World) (hw : (way == 0) = true) (hk : k ≤ th) :
    Calls Tryz.prog 47 #[.agg #[.bool c, .bool a0, .bool a1, .bool a2, .bool a3, .bool b0, .bool true, .bool b2, .bool b3, .int .i64 th], .agg #[.int .i64 8, .int .i64 1, .int .i64 t, .int .i64 f, .int .i64 k], .int .i64 way] w fun e w' => e = .returned (.agg #[.bool c, .bool a0, .bool a1, .bool a2, .bool a3, .bool b0, .bool true, .bool b2, .bool b3, .int .i64 th]) ∧ RGrew3 w w' := by
  go_enter Tryz.func47, Tryz.ntmps47
  go_wp2_with fail
  refine bodyPost_ret (v := .agg #[.bool c, .bool a0, .bool a1, .bool a2, .bool a3, .bool b0, .bool true, .bool b2, .bool b3, .int .i64 th]) (by simp [results, Tryz.results47, go_sem]) rfl ⟨rfl, ?_⟩
  exact ⟨_, _, _, rfl⟩

set_option maxHeartbeats 800000 in
theorem rbehind_8_2_n (c a0 a1 a2 a3 b0 b1 b3 : Bool) (th t f k way : Int) (w : World) (hw : (way == 0) = true) :
    Calls Tryz.prog 47 #[.agg #[.bool c, .bool a0, .bool a1, .bool a2, .bool a3, .bool b0, .bool b1, .bool false, .bool b3, .int .i64 th], .agg #[.int .i64 8, .int .i64 2, .int .i64 t, .int .i64 f, .int .i64 k], .int .i64 way] w fun e w' => e = .returned (.agg #[.bool c, .bool a0, .bool a1, .bool a2, .bool a3, .bool b0, .bool b1, .bool false, .bool b3, .int .i64 th]) ∧ RGrew3 w w' := by
  go_enter Tryz.func47, Tryz.ntmps47
  go_wp2_with fail
  refine bodyPost_ret (v := .agg #[.bool c, .bool a0, .bool a1, .bool a2, .bool a3, .bool b0, .bool b1, .bool false, .bool b3, .int .i64 th]) (by simp [results, Tryz.results47, go_sem]) rfl ⟨rfl, ?_⟩
  exact ⟨_, _, _, rfl⟩

set_option maxHeartbeats 800000 in
theorem rbehind_8_2_k (c a0 a1 a2 a3 b0 b1 b3 : Bool) (th t f k way : Int) (w : World) (hw : (way == 0) = true) (hk : th < k) :
    Calls Tryz.prog 47 #[.agg #[.bool c, .bool a0, .bool a1, .bool a2, .bool a3, .bool b0, .bool b1, .bool true, .bool b3, .int .i64 th], .agg #[.int .i64 8, .int .i64 2, .int .i64 t, .int .i64 f, .int .i64 k], .int .i64 way] w fun e w' => e = .returned (.agg #[.bool c, .bool a0, .bool a1, .bool a2, .bool a3, .bool b0, .bool b1, .bool true, .bool b3, .int .i64 k]) ∧ RGrew3 w w' := by
  go_enter Tryz.func47, Tryz.ntmps47
  go_wp2_with fail
  refine bodyPost_ret (v := .agg #[.bool c, .bool a0, .bool a1, .bool a2, .bool a3, .bool b0, .bool b1, .bool true, .bool b3, .int .i64 k]) (by simp [results, Tryz.results47, go_sem]) rfl ⟨rfl, ?_⟩
  exact ⟨_, _, _, rfl⟩

set_option maxHeartbeats 800000 in
theorem rbehind_8_2_t (c a0 a1 a2 a3 b0 b1 b3 : Bool) (th t f k way : Int) (w : World) (hw : (way == 0) = true) (hk : k ≤ th) :
    Calls Tryz.prog 47 #[.agg #[.bool c, .bool a0, .bool a1, .bool a2, .bool a3, .bool b0, .bool b1, .bool true, .bool b3, .int .i64 th], .agg #[.int .i64 8, .int .i64 2, .int .i64 t, .int .i64 f, .int .i64 k], .int .i64 way] w fun e w' => e = .returned (.agg #[.bool c, .bool a0, .bool a1, .bool a2, .bool a3, .bool b0, .bool b1, .bool true, .bool b3, .int .i64 th]) ∧ RGrew3 w w' := by
  go_enter Tryz.func47, Tryz.ntmps47
  go_wp2_with fail
  refine bodyPost_ret (v := .agg #[.bool c, .bool a0, .bool a1, .bool a2, .bool a3, .bool b0, .bool b1, .bool true, .bool b3, .int .i64 th]) (by simp [results, Tryz.results47, go_sem]) rfl ⟨rfl, ?_⟩
  exact ⟨_, _, _, rfl⟩

set_option maxHeartbeats 800000 in
theorem rbehind_8_3_n (c a0 a1 a2 a3 b0 b1 b2 : Bool) (th t f k way : Int) (w : World) (hw : (way == 0) = true) :
    Calls Tryz.prog 47 #[.agg #[.bool c, .bool a0, .bool a1, .bool a2, .bool a3, .bool b0, .bool b1, .bool b2, .bool false, .int .i64 th], .agg #[.int .i64 8, .int .i64 3, .int .i64 t, .int .i64 f, .int .i64 k], .int .i64 way] w fun e w' => e = .returned (.agg #[.bool c, .bool a0, .bool a1, .bool a2, .bool a3, .bool b0, .bool b1, .bool b2, .bool false, .int .i64 th]) ∧ RGrew3 w w' := by
  go_enter Tryz.func47, Tryz.ntmps47
  go_wp2_with fail
  refine bodyPost_ret (v := .agg #[.bool c, .bool a0, .bool a1, .bool a2, .bool a3, .bool b0, .bool b1, .bool b2, .bool false, .int .i64 th]) (by simp [results, Tryz.results47, go_sem]) rfl ⟨rfl, ?_⟩
  exact ⟨_, _, _, rfl⟩

set_option maxHeartbeats 800000 in
theorem rbehind_8_3_k (c a0 a1 a2 a3 b0 b1 b2 : Bool) (th t f k way : Int) (w : World) (hw : (way == 0) = true) (hk : th < k) :
    Calls Tryz.prog 47 #[.agg #[.bool c, .bool a0, .bool a1, .bool a2, .bool a3, .bool b0, .bool b1, .bool b2, .bool true, .int .i64 th], .agg #[.int .i64 8, .int .i64 3, .int .i64 t, .int .i64 f, .int .i64 k], .int .i64 way] w fun e w' => e = .returned (.agg #[.bool c, .bool a0, .bool a1, .bool a2, .bool a3, .bool b0, .bool b1, .bool b2, .bool true, .int .i64 k]) ∧ RGrew3 w w' := by
  go_enter Tryz.func47, Tryz.ntmps47
  go_wp2_with fail
  refine bodyPost_ret (v := .agg #[.bool c, .bool a0, .bool a1, .bool a2, .bool a3, .bool b0, .bool b1, .bool b2, .bool true, .int .i64 k]) (by simp [results, Tryz.results47, go_sem]) rfl ⟨rfl, ?_⟩
  exact ⟨_, _, _, rfl⟩

set_option maxHeartbeats 800000 in
theorem rbehind_8_3_t (c a0 a1 a2 a3 b0 b1 b2 : Bool) (th t f k way : Int) (w : World) (hw : (way == 0) = true) (hk : k ≤ th) :
    Calls Tryz.prog 47 #[.agg #[.bool c, .bool a0, .bool a1, .bool a2, .bool a3, .bool b0, .bool b1, .bool b2, .bool true, .int .i64 th], .agg #[.int .i64 8, .int .i64 3, .int .i64 t, .int .i64 f, .int .i64 k], .int .i64 way] w fun e w' => e = .returned (.agg #[.bool c, .bool a0, .bool a1, .bool a2, .bool a3, .bool b0, .bool b1, .bool b2, .bool true, .int .i64 th]) ∧ RGrew3 w w' := by
  go_enter Tryz.func47, Tryz.ntmps47
  go_wp2_with fail
  refine bodyPost_ret (v := .agg #[.bool c, .bool a0, .bool a1, .bool a2, .bool a3, .bool b0, .bool b1, .bool b2, .bool true, .int .i64 th]) (by simp [results, Tryz.results47, go_sem]) rfl ⟨rfl, ?_⟩
  exact ⟨_, _, _, rfl⟩

set_option maxHeartbeats 800000 in
theorem rbehind_9_w (c a0 a1 a2 a3 b0 b1 b2 b3 : Bool) (th r t f k way : Int) (w : World) (hw : (way == 0) = false) :
    Calls Tryz.prog 47 #[.agg #[.bool c, .bool a0, .bool a1, .bool a2, .bool a3, .bool b0, .bool b1, .bool b2, .bool b3, .int .i64 th], .agg #[.int .i64 9, .int .i64 r, .int .i64 t, .int .i64 f, .int .i64 k], .int .i64 way] w fun e w' => e = .returned (.agg #[.bool c, .bool a0, .bool a1, .bool a2, .bool a3, .bool b0, .bool b1, .bool b2, .bool b3, .int .i64 th]) ∧ RGrew3 w w' := by
  go_enter Tryz.func47, Tryz.ntmps47
  go_wp2_with fail
  refine bodyPost_ret (v := .agg #[.bool c, .bool a0, .bool a1, .bool a2, .bool a3, .bool b0, .bool b1, .bool b2, .bool b3, .int .i64 th]) (by simp [results, Tryz.results47, go_sem]) rfl ⟨rfl, ?_⟩
  exact ⟨_, _, _, rfl⟩

set_option maxHeartbeats 800000 in
theorem rbehind_9_0_n (c a0 a1 a2 a3 b1 b2 b3 : Bool) (th t f k way : Int) (w : World) (hw : (way == 0) = true) :
    Calls Tryz.prog 47 #[.agg #[.bool c, .bool a0, .bool a1, .bool a2, .bool a3, .bool false, .bool b1, .bool b2, .bool b3, .int .i64 th], .agg #[.int .i64 9, .int .i64 0, .int .i64 t, .int .i64 f, .int .i64 k], .int .i64 way] w fun e w' => e = .returned (.agg #[.bool c, .bool a0, .bool a1, .bool a2, .bool a3, .bool false, .bool b1, .bool b2, .bool b3, .int .i64 th]) ∧ RGrew3 w w' := by
  go_enter Tryz.func47, Tryz.ntmps47
  go_wp2_with fail
  refine bodyPost_ret (v := .agg #[.bool c, .bool a0, .bool a1, .bool a2, .bool a3, .bool false, .bool b1, .bool b2, .bool b3, .int .i64 th]) (by simp [results, Tryz.results47, go_sem]) rfl ⟨rfl, ?_⟩
  exact ⟨_, _, _, rfl⟩

set_option maxHeartbeats 800000 in
theorem rbehind_9_0_k (c a0 a1 a2 a3 b1 b2 b3 : Bool) (th t f k way : Int) (w : World) (hw : (way == 0) = true) (hk : th < k) :
    Calls Tryz.prog 47 #[.agg #[.bool c, .bool a0, .bool a1, .bool a2, .bool a3, .bool true, .bool b1, .bool b2, .bool b3, .int .i64 th], .agg #[.int .i64 9, .int .i64 0, .int .i64 t, .int .i64 f, .int .i64 k], .int .i64 way] w fun e w' => e = .returned (.agg #[.bool c, .bool a0, .bool a1, .bool a2, .bool a3, .bool true, .bool b1, .bool b2, .bool b3, .int .i64 k]) ∧ RGrew3 w w' := by
  go_enter Tryz.func47, Tryz.ntmps47
  go_wp2_with fail
  refine bodyPost_ret (v := .agg #[.bool c, .bool a0, .bool a1, .bool a2, .bool a3, .bool true, .bool b1, .bool b2, .bool b3, .int .i64 k]) (by simp [results, Tryz.results47, go_sem]) rfl ⟨rfl, ?_⟩
  exact ⟨_, _, _, rfl⟩

set_option maxHeartbeats 800000 in
theorem rbehind_9_0_t (c a0 a1 a2 a3 b1 b2 b3 : Bool) (th t f k way : Int) (w : World) (hw : (way == 0) = true) (hk : k ≤ th) :
    Calls Tryz.prog 47 #[.agg #[.bool c, .bool a0, .bool a1, .bool a2, .bool a3, .bool true, .bool b1, .bool b2, .bool b3, .int .i64 th], .agg #[.int .i64 9, .int .i64 0, .int .i64 t, .int .i64 f, .int .i64 k], .int .i64 way] w fun e w' => e = .returned (.agg #[.bool c, .bool a0, .bool a1, .bool a2, .bool a3, .bool true, .bool b1, .bool b2, .bool b3, .int .i64 th]) ∧ RGrew3 w w' := by
  go_enter Tryz.func47, Tryz.ntmps47
  go_wp2_with fail
  refine bodyPost_ret (v := .agg #[.bool c, .bool a0, .bool a1, .bool a2, .bool a3, .bool true, .bool b1, .bool b2, .bool b3, .int .i64 th]) (by simp [results, Tryz.results47, go_sem]) rfl ⟨rfl, ?_⟩
  exact ⟨_, _, _, rfl⟩

set_option maxHeartbeats 800000 in
theorem rbehind_9_1_n (c a0 a1 a2 a3 b0 b2 b3 : Bool) (th t f k way : Int) (w : World) (hw : (way == 0) = true) :
    Calls Tryz.prog 47 #[.agg #[.bool c, .bool a0, .bool a1, .bool a2, .bool a3, .bool b0, .bool false, .bool b2, .bool b3, .int .i64 th], .agg #[.int .i64 9, .int .i64 1, .int .i64 t, .int .i64 f, .int .i64 k], .int .i64 way] w fun e w' => e = .returned (.agg #[.bool c, .bool a0, .bool a1, .bool a2, .bool a3, .bool b0, .bool false, .bool b2, .bool b3, .int .i64 th]) ∧ RGrew3 w w' := by
  go_enter Tryz.func47, Tryz.ntmps47
  go_wp2_with fail
  refine bodyPost_ret (v := .agg #[.bool c, .bool a0, .bool a1, .bool a2, .bool a3, .bool b0, .bool false, .bool b2, .bool b3, .int .i64 th]) (by simp [results, Tryz.results47, go_sem]) rfl ⟨rfl, ?_⟩
  exact ⟨_, _, _, rfl⟩

set_option maxHeartbeats 800000 in
theorem rbehind_9_1_k (c a0 a1 a2 a3 b0 b2 b3 : Bool) (th t f k way : Int) (w : World) (hw : (way == 0) = true) (hk : th < k) :
    Calls Tryz.prog 47 #[.agg #[.bool c, .bool a0, .bool a1, .bool a2, .bool a3, .bool b0, .bool true, .bool b2, .bool b3, .int .i64 th], .agg #[.int .i64 9, .int .i64 1, .int .i64 t, .int .i64 f, .int .i64 k], .int .i64 way] w fun e w' => e = .returned (.agg #[.bool c, .bool a0, .bool a1, .bool a2, .bool a3, .bool b0, .bool true, .bool b2, .bool b3, .int .i64 k]) ∧ RGrew3 w w' := by
  go_enter Tryz.func47, Tryz.ntmps47
  go_wp2_with fail
  refine bodyPost_ret (v := .agg #[.bool c, .bool a0, .bool a1, .bool a2, .bool a3, .bool b0, .bool true, .bool b2, .bool b3, .int .i64 k]) (by simp [results, Tryz.results47, go_sem]) rfl ⟨rfl, ?_⟩
  exact ⟨_, _, _, rfl⟩

set_option maxHeartbeats 800000 in
theorem rbehind_9_1_t (c a0 a1 a2 a3 b0 b2 b3 : Bool) (th t f k way : Int) (w : World) (hw : (way == 0) = true) (hk : k ≤ th) :
    Calls Tryz.prog 47 #[.agg #[.bool c, .bool a0, .bool a1, .bool a2, .bool a3, .bool b0, .bool true, .bool b2, .bool b3, .int .i64 th], .agg #[.int .i64 9, .int .i64 1, .int .i64 t, .int .i64 f, .int .i64 k], .int .i64 way] w fun e w' => e = .returned (.agg #[.bool c, .bool a0, .bool a1, .bool a2, .bool a3, .bool b0, .bool true, .bool b2, .bool b3, .int .i64 th]) ∧ RGrew3 w w' := by
  go_enter Tryz.func47, Tryz.ntmps47
  go_wp2_with fail
  refine bodyPost_ret (v := .agg #[.bool c, .bool a0, .bool a1, .bool a2, .bool a3, .bool b0, .bool true, .bool b2, .bool b3, .int .i64 th]) (by simp [results, Tryz.results47, go_sem]) rfl ⟨rfl, ?_⟩
  exact ⟨_, _, _, rfl⟩

set_option maxHeartbeats 800000 in
theorem rbehind_9_2_n (c a0 a1 a2 a3 b0 b1 b3 : Bool) (th t f k way : Int) (w : World) (hw : (way == 0) = true) :
    Calls Tryz.prog 47 #[.agg #[.bool c, .bool a0, .bool a1, .bool a2, .bool a3, .bool b0, .bool b1, .bool false, .bool b3, .int .i64 th], .agg #[.int .i64 9, .int .i64 2, .int .i64 t, .int .i64 f, .int .i64 k], .int .i64 way] w fun e w' => e = .returned (.agg #[.bool c, .bool a0, .bool a1, .bool a2, .bool a3, .bool b0, .bool b1, .bool false, .bool b3, .int .i64 th]) ∧ RGrew3 w w' := by
  go_enter Tryz.func47, Tryz.ntmps47
  go_wp2_with fail
  refine bodyPost_ret (v := .agg #[.bool c, .bool a0, .bool a1, .bool a2, .bool a3, .bool b0, .bool b1, .bool false, .bool b3, .int .i64 th]) (by simp [results, Tryz.results47, go_sem]) rfl ⟨rfl, ?_⟩
  exact ⟨_, _, _, rfl⟩

set_option maxHeartbeats 800000 in
theorem rbehind_9_2_k (c a0 a1 a2 a3 b0 b1 b3 : Bool) (th t f k way : Int) (w : World) (hw : (way == 0) = true) (hk : th < k) :
    Calls Tryz.prog 47 #[.agg #[.bool c, .bool a0, .bool a1, .bool a2, .bool a3, .bool b0, .bool b1, .bool true, .bool b3, .int .i64 th], .agg #[.int .i64 9, .int .i64 2, .int .i64 t, .int .i64 f, .int .i64 k], .int .i64 way] w fun e w' => e = .returned (.agg #[.bool c, .bool a0, .bool a1, .bool a2, .bool a3, .bool b0, .bool b1, .bool true, .bool b3, .int .i64 k]) ∧ RGrew3 w w' := by
  go_enter Tryz.func47, Tryz.ntmps47
  go_wp2_with fail
  refine bodyPost_ret (v := .agg #[.bool c, .bool a0, .bool a1, .bool a2, .bool a3, .bool b0, .bool b1, .bool true, .bool b3, .int .i64 k]) (by simp [results, Tryz.results47, go_sem]) rfl ⟨rfl, ?_⟩
  exact ⟨_, _, _, rfl⟩

set_option maxHeartbeats 800000 in
theorem rbehind_9_2_t (c a0 a1 a2 a3 b0 b1 b3 : Bool) (th t f k way : Int) (w : World) (hw : (way == 0) = true) (hk : k ≤ th) :
    Calls Tryz.prog 47 #[.agg #[.bool c, .bool a0, .bool a1, .bool a2, .bool a3, .bool b0, .bool b1, .bool true, .bool b3, .int .i64 th], .agg #[.int .i64 9, .int .i64 2, .int .i64 t, .int .i64 f, .int .i64 k], .int .i64 way] w fun e w' => e = .returned (.agg #[.bool c, .bool a0, .bool a1, .bool a2, .bool a3, .bool b0, .bool b1, .bool true, .bool b3, .int .i64 th]) ∧ RGrew3 w w' := by
  go_enter Tryz.func47, Tryz.ntmps47
  go_wp2_with fail
  refine bodyPost_ret (v := .agg #[.bool c, .bool a0, .bool a1, .bool a2, .bool a3, .bool b0, .bool b1, .bool true, .bool b3, .int .i64 th]) (by simp [results, Tryz.results47, go_sem]) rfl ⟨rfl, ?_⟩
  exact ⟨_, _, _, rfl⟩

set_option maxHeartbeats 800000 in
theorem rbehind_9_3_n (c a0 a1 a2 a3 b0 b1 b2 : Bool) (th t f k way : Int) (w : World) (hw : (way == 0) = true) :
    Calls Tryz.prog 47 #[.agg #[.bool c, .bool a0, .bool a1, .bool a2, .bool a3, .bool b0, .bool b1, .bool b2, .bool false, .int .i64 th], .agg #[.int .i64 9, .int .i64 3, .int .i64 t, .int .i64 f, .int .i64 k], .int .i64 way] w fun e w' => e = .returned (.agg #[.bool c, .bool a0, .bool a1, .bool a2, .bool a3, .bool b0, .bool b1, .bool b2, .bool false, .int .i64 th]) ∧ RGrew3 w w' := by
  go_enter Tryz.func47, Tryz.ntmps47
  go_wp2_with fail
  refine bodyPost_ret (v := .agg #[.bool c, .bool a0, .bool a1, .bool a2, .bool a3, .bool b0, .bool b1, .bool b2, .bool false, .int .i64 th]) (by simp [results, Tryz.results47, go_sem]) rfl ⟨rfl, ?_⟩
  exact ⟨_, _, _, rfl⟩

set_option maxHeartbeats 800000 in
theorem rbehind_9_3_k (c a0 a1 a2 a3 b0 b1 b2 : Bool) (th t f k way : Int) (w : World) (hw : (way == 0) = true) (hk : th < k) :
    Calls Tryz.prog 47 #[.agg #[.bool c, .bool a0, .bool a1, .bool a2, .bool a3, .bool b0, .bool b1, .bool b2, .bool true, .int .i64 th], .agg #[.int .i64 9, .int .i64 3, .int .i64 t, .int .i64 f, .int .i64 k], .int .i64 way] w fun e w' => e = .returned (.agg #[.bool c, .bool a0, .bool a1, .bool a2, .bool a3, .bool b0, .bool b1, .bool b2, .bool true, .int .i64 k]) ∧ RGrew3 w w' := by
  go_enter Tryz.func47, Tryz.ntmps47
  go_wp2_with fail
  refine bodyPost_ret (v := .agg #[.bool c, .bool a0, .bool a1, .bool a2, .bool a3, .bool b0, .bool b1, .bool b2, .bool true, .int .i64 k]) (by simp [results, Tryz.results47, go_sem]) rfl ⟨rfl, ?_⟩
  exact ⟨_, _, _, rfl⟩

set_option maxHeartbeats 800000 in
theorem rbehind_9_3_t (c a0 a1 a2 a3 b0 b1 b2 : Bool) (th t f k way : Int) (w : World) (hw : (way == 0) = true) (hk : k ≤ th) :
    Calls Tryz.prog 47 #[.agg #[.bool c, .bool a0, .bool a1, .bool a2, .bool a3, .bool b0, .bool b1, .bool b2, .bool true, .int .i64 th], .agg #[.int .i64 9, .int .i64 3, .int .i64 t, .int .i64 f, .int .i64 k], .int .i64 way] w fun e w' => e = .returned (.agg #[.bool c, .bool a0, .bool a1, .bool a2, .bool a3, .bool b0, .bool b1, .bool b2, .bool true, .int .i64 th]) ∧ RGrew3 w w' := by
  go_enter Tryz.func47, Tryz.ntmps47
  go_wp2_with fail
  refine bodyPost_ret (v := .agg #[.bool c, .bool a0, .bool a1, .bool a2, .bool a3, .bool b0, .bool b1, .bool b2, .bool true, .int .i64 th]) (by simp [results, Tryz.results47, go_sem]) rfl ⟨rfl, ?_⟩
  exact ⟨_, _, _, rfl⟩

set_option maxHeartbeats 800000 in
theorem rbehind_z (c a0 a1 a2 a3 b0 b1 b2 b3 : Bool) (th r t f k way : Int) (w : World) :
    Calls Tryz.prog 47 #[.agg #[.bool c, .bool a0, .bool a1, .bool a2, .bool a3, .bool b0, .bool b1, .bool b2, .bool b3, .int .i64 th], .agg #[.int .i64 0, .int .i64 r, .int .i64 t, .int .i64 f, .int .i64 k], .int .i64 way] w fun e w' => e = .returned (.agg #[.bool c, .bool a0, .bool a1, .bool a2, .bool a3, .bool b0, .bool b1, .bool b2, .bool b3, .int .i64 th]) ∧ RGrew3 w w' := by
  go_enter Tryz.func47, Tryz.ntmps47
  go_wp2_with fail
  refine bodyPost_ret (v := .agg #[.bool c, .bool a0, .bool a1, .bool a2, .bool a3, .bool b0, .bool b1, .bool b2, .bool b3, .int .i64 th]) (by simp [results, Tryz.results47, go_sem]) rfl ⟨rfl, ?_⟩
  exact ⟨_, _, _, rfl⟩

set_option maxHeartbeats 800000 in
theorem rbehind_o (c a0 a1 a2 a3 b0 b1 b2 b3 : Bool) (th op r t f k way : Int) (w : World) (g1 : 1 ≤ op) (g4 : 4 < op) (h5 : (op == 5) = false) (h6 : (op == 6) = false) (h7 : (op == 7) = false) (h8 : (op == 8) = false) (h9 : (op == 9) = false) :
    Calls Tryz.prog 47 #[.agg #[.bool c, .bool a0, .bool a1, .bool a2, .bool a3, .bool b0, .bool b1, .bool b2, .bool b3, .int .i64 th], .agg #[.int .i64 op, .int .i64 r, .int .i64 t, .int .i64 f, .int .i64 k], .int .i64 way] w fun e w' => e = .returned (.agg #[.bool c, .bool a0, .bool a1, .bool a2, .bool a3, .bool b0, .bool b1, .bool b2, .bool b3, .int .i64 th]) ∧ RGrew3 w w' := by
  go_enter Tryz.func47, Tryz.ntmps47
  go_wp2_with fail
  refine bodyPost_ret (v := .agg #[.bool c, .bool a0, .bool a1, .bool a2, .bool a3, .bool b0, .bool b1, .bool b2, .bool b3, .int .i64 th]) (by simp [results, Tryz.results47, go_sem]) rfl ⟨rfl, ?_⟩
  exact ⟨_, _, _, rfl⟩

theorem rbehind_any (a : Fc) (x : Ins) (way : Nat) (w : World) (ha : a.Ok) (hb : x.Bd) (hr : x.r < 4) :
    Calls Tryz.prog 47 #[rfV a, refV x, .int .i64 way] w fun e w' => e = .returned (rfV (a.behind x way)) ∧ RGrew3 w w' := by
  have h0 := hb.r
  have h1 := hb.op
  obtain ⟨a0, a1, a2, a3, e1⟩ := rlist4 ha.set
  obtain ⟨b0, b1, b2, b3, e2⟩ := rlist4 ha.long
  obtain ⟨c, asl, all, th⟩ := a
  obtain ⟨op, r, t, f, k⟩ := x
  dsimp only at *
  subst e1 e2
  have hrc : r = 0 ∨ r = 1 ∨ r = 2 ∨ r = 3 := by omega
  by_cases c1 : op = 1
  · subst c1
    rcases hrc with rfl | rfl | rfl | rfl
    · exact rbehind_1_0 c a0 a1 a2 a3 b0 b1 b2 b3 th t f k way w
    · exact rbehind_1_1 c a0 a1 a2 a3 b0 b1 b2 b3 th t f k way w
    · exact rbehind_1_2 c a0 a1 a2 a3 b0 b1 b2 b3 th t f k way w
    · exact rbehind_1_3 c a0 a1 a2 a3 b0 b1 b2 b3 th t f k way w
  by_cases c2 : op = 2
  · subst c2
    rcases hrc with rfl | rfl | rfl | rfl
    · exact rbehind_2_0 c a0 a1 a2 a3 b0 b1 b2 b3 th t f k way w
    · exact rbehind_2_1 c a0 a1 a2 a3 b0 b1 b2 b3 th t f k way w
    · exact rbehind_2_2 c a0 a1 a2 a3 b0 b1 b2 b3 th t f k way w
    · exact rbehind_2_3 c a0 a1 a2 a3 b0 b1 b2 b3 th t f k way w
  by_cases c3 : op = 3
  · subst c3
    rcases hrc with rfl | rfl | rfl | rfl
    · exact rbehind_3_0 c a0 a1 a2 a3 b0 b1 b2 b3 th t f k way w
    · exact rbehind_3_1 c a0 a1 a2 a3 b0 b1 b2 b3 th t f k way w
    · exact rbehind_3_2 c a0 a1 a2 a3 b0 b1 b2 b3 th t f k way w
    · exact rbehind_3_3 c a0 a1 a2 a3 b0 b1 b2 b3 th t f k way w
  by_cases c4 : op = 4
  · subst c4
    rcases hrc with rfl | rfl | rfl | rfl
    · exact rbehind_4_0 c a0 a1 a2 a3 b0 b1 b2 b3 th t f k way w
    · exact rbehind_4_1 c a0 a1 a2 a3 b0 b1 b2 b3 th t f k way w
    · exact rbehind_4_2 c a0 a1 a2 a3 b0 b1 b2 b3 th t f k way w
    · exact rbehind_4_3 c a0 a1 a2 a3 b0 b1 b2 b3 th t f k way w
  by_cases c5 : op = 5
  · subst c5
    rcases hrc with rfl | rfl | rfl | rfl
    · exact rbehind_5_0 c a0 a1 a2 a3 b0 b1 b2 b3 th t f k way w
    · exact rbehind_5_1 c a0 a1 a2 a3 b0 b1 b2 b3 th t f k way w
    · exact rbehind_5_2 c a0 a1 a2 a3 b0 b1 b2 b3 th t f k way w
    · exact rbehind_5_3 c a0 a1 a2 a3 b0 b1 b2 b3 th t f k way w
  by_cases c6 : op = 6
  · subst c6
    rcases hrc with rfl | rfl | rfl | rfl
    · exact rbehind_6_0 c a0 a1 a2 a3 b0 b1 b2 b3 th t f k way w
    · exact rbehind_6_1 c a0 a1 a2 a3 b0 b1 b2 b3 th t f k way w
    · exact rbehind_6_2 c a0 a1 a2 a3 b0 b1 b2 b3 th t f k way w
    · exact rbehind_6_3 c a0 a1 a2 a3 b0 b1 b2 b3 th t f k way w
  by_cases c7 : op = 7
  · subst c7
    rcases hrc with rfl | rfl | rfl | rfl
    · exact rbehind_7_0 c a0 a1 a2 a3 b0 b1 b2 b3 th t f k way w
    · exact rbehind_7_1 c a0 a1 a2 a3 b0 b1 b2 b3 th t f k way w
    · exact rbehind_7_2 c a0 a1 a2 a3 b0 b1 b2 b3 th t f k way w
    · exact rbehind_7_3 c a0 a1 a2 a3 b0 b1 b2 b3 th t f k way w
  by_cases c8 : op = 8
  · subst c8
    by_cases hw : way = 0
    · subst hw
      rcases hrc with rfl | rfl | rfl | rfl
      · cases b0
        · exact rbehind_8_0_n c a0 a1 a2 a3 b1 b2 b3 th t f k 0 w rfl
        · by_cases hk : th < k
          · have := rbehind_8_0_k c a0 a1 a2 a3 b1 b2 b3 th t f k 0 w rfl hk
            simpa [Fc.behind, Fc.is, rfV, rfC, refV, hk] using this
          · have := rbehind_8_0_t c a0 a1 a2 a3 b1 b2 b3 th t f k 0 w rfl (by omega)
            simpa [Fc.behind, Fc.is, rfV, rfC, refV, hk] using this
      · cases b1
        · exact rbehind_8_1_n c a0 a1 a2 a3 b0 b2 b3 th t f k 0 w rfl
        · by_cases hk : th < k
          · have := rbehind_8_1_k c a0 a1 a2 a3 b0 b2 b3 th t f k 0 w rfl hk
            simpa [Fc.behind, Fc.is, rfV, rfC, refV, hk] using this
          · have := rbehind_8_1_t c a0 a1 a2 a3 b0 b2 b3 th t f k 0 w rfl (by omega)
            simpa [Fc.behind, Fc.is, rfV, rfC, refV, hk] using this
      · cases b2
        · exact rbehind_8_2_n c a0 a1 a2 a3 b0 b1 b3 th t f k 0 w rfl
        · by_cases hk : th < k
          · have := rbehind_8_2_k c a0 a1 a2 a3 b0 b1 b3 th t f k 0 w rfl hk
            simpa [Fc.behind, Fc.is, rfV, rfC, refV, hk] using this
          · have := rbehind_8_2_t c a0 a1 a2 a3 b0 b1 b3 th t f k 0 w rfl (by omega)
            simpa [Fc.behind, Fc.is, rfV, rfC, refV, hk] using this
      · cases b3
        · exact rbehind_8_3_n c a0 a1 a2 a3 b0 b1 b2 th t f k 0 w rfl
        · by_cases hk : th < k
          · have := rbehind_8_3_k c a0 a1 a2 a3 b0 b1 b2 th t f k 0 w rfl hk
            simpa [Fc.behind, Fc.is, rfV, rfC, refV, hk] using this
          · have := rbehind_8_3_t c a0 a1 a2 a3 b0 b1 b2 th t f k 0 w rfl (by omega)
            simpa [Fc.behind, Fc.is, rfV, rfC, refV, hk] using this
    · have := rbehind_8_w c a0 a1 a2 a3 b0 b1 b2 b3 th r t f k way w (by simpa using hw)
      simpa [Fc.behind, Fc.is, rfV, rfC, refV, hw] using this
  by_cases c9 : op = 9
  · subst c9
    by_cases hw : way = 0
    · subst hw
      rcases hrc with rfl | rfl | rfl | rfl
      · cases b0
        · exact rbehind_9_0_n c a0 a1 a2 a3 b1 b2 b3 th t f k 0 w rfl
        · by_cases hk : th < k
          · have := rbehind_9_0_k c a0 a1 a2 a3 b1 b2 b3 th t f k 0 w rfl hk
            simpa [Fc.behind, Fc.is, rfV, rfC, refV, hk] using this
          · have := rbehind_9_0_t c a0 a1 a2 a3 b1 b2 b3 th t f k 0 w rfl (by omega)
            simpa [Fc.behind, Fc.is, rfV, rfC, refV, hk] using this
      · cases b1
        · exact rbehind_9_1_n c a0 a1 a2 a3 b0 b2 b3 th t f k 0 w rfl
        · by_cases hk : th < k
          · have := rbehind_9_1_k c a0 a1 a2 a3 b0 b2 b3 th t f k 0 w rfl hk
            simpa [Fc.behind, Fc.is, rfV, rfC, refV, hk] using this
          · have := rbehind_9_1_t c a0 a1 a2 a3 b0 b2 b3 th t f k 0 w rfl (by omega)
            simpa [Fc.behind, Fc.is, rfV, rfC, refV, hk] using this
      · cases b2
        · exact rbehind_9_2_n c a0 a1 a2 a3 b0 b1 b3 th t f k 0 w rfl
        · by_cases hk : th < k
          · have := rbehind_9_2_k c a0 a1 a2 a3 b0 b1 b3 th t f k 0 w rfl hk
            simpa [Fc.behind, Fc.is, rfV, rfC, refV, hk] using this
          · have := rbehind_9_2_t c a0 a1 a2 a3 b0 b1 b3 th t f k 0 w rfl (by omega)
            simpa [Fc.behind, Fc.is, rfV, rfC, refV, hk] using this
      · cases b3
        · exact rbehind_9_3_n c a0 a1 a2 a3 b0 b1 b2 th t f k 0 w rfl
        · by_cases hk : th < k
          · have := rbehind_9_3_k c a0 a1 a2 a3 b0 b1 b2 th t f k 0 w rfl hk
            simpa [Fc.behind, Fc.is, rfV, rfC, refV, hk] using this
          · have := rbehind_9_3_t c a0 a1 a2 a3 b0 b1 b2 th t f k 0 w rfl (by omega)
            simpa [Fc.behind, Fc.is, rfV, rfC, refV, hk] using this
    · have := rbehind_9_w c a0 a1 a2 a3 b0 b1 b2 b3 th r t f k way w (by simpa using hw)
      simpa [Fc.behind, Fc.is, rfV, rfC, refV, hw] using this
  have e : Fc.behind ⟨c, [a0, a1, a2, a3], [b0, b1, b2, b3], th⟩ ⟨op, r, t, f, k⟩ way = ⟨c, [a0, a1, a2, a3], [b0, b1, b2, b3], th⟩ := by
    unfold Fc.behind
    dsimp only
    rw [if_neg (by omega), if_neg c5, if_neg (by omega), if_neg (by omega)]
  rw [e]
  by_cases c0 : op = 0
  · subst c0
    exact rbehind_z c a0 a1 a2 a3 b0 b1 b2 b3 th r t f k way w
  exact rbehind_o c a0 a1 a2 a3 b0 b1 b2 b3 th op r t f k way w (by omega) (by omega) (by simpa using c5) (by simpa using c6) (by simpa using c7) (by simpa using c8) (by simpa using c9)
end Go.Proofs.YtclpnafiiobfhaaGreatDoor

import Derived.Test.YtclpnafiiobfhaaDoorFrBuild
import Derived.KernelRfl
namespace Go.Proofs.YtclpnafiiobfhaaDoor
open Go.RowKit
set_option linter.unusedVariables false
set_option linter.unusedSimpArgs false

theorem take_set2 (l : List Int) (K i : Nat) (n : Int) : (set2 l i n).take K = set2 (l.take K) i n := by simp [set2, List.take_set]
theorem take_set4 (l : List Int) (K i : Nat) (n : Int) : (set4 l i n).take K = set4 (l.take K) i n := by simp [set4, take_set2]
theorem take_zeros (K m : Nat) : (List.replicate (K + m) (0 : Int)).take K = List.replicate K 0 := by simp [List.take_replicate]

/-- the head's bytes are the same, laid ahead or behind -/
theorem frames_tcp (a b p sp dp f t : Int) (m : Nat) (pl : List Int) :
    headOf ((((set2 (set2 (List.replicate (54 + m) 0) 34 sp) 36 dp).set 46 80).set 47 f).take 54 ++ pl) t a b p =
      (((set2 (set2 (set4 (set4 (set2 ((((List.replicate (54 + m) 0).set 12 8).set 14 69).set 22 64 |>.set 23 p) 16 t) 26 a) 30 b) 34 sp) 36 dp).set 46 80).set 47 f).take 54 ++ pl := by
  simp only [List.take_set, take_set2, take_set4, take_zeros]
  kernel_rfl
theorem frames_udp (a b p sp dp n t : Int) (m : Nat) (pl : List Int) :
    headOf ((set2 (set2 (set2 (List.replicate (42 + m) 0) 34 sp) 36 dp) 38 n).take 42 ++ pl) t a b p =
      (set2 (set2 (set2 (set4 (set4 (set2 ((((List.replicate (42 + m) 0).set 12 8).set 14 69).set 22 64 |>.set 23 p) 16 t) 26 a) 30 b) 34 sp) 36 dp) 38 n).take 42 ++ pl := by
  simp only [List.take_set, take_set2, take_set4, take_zeros]
  kernel_rfl
theorem frames_icmp (a b p sp f t : Int) (m : Nat) (pl : List Int) :
    headOf ((set2 ((List.replicate (42 + m) 0).set 34 f) 38 sp).take 42 ++ pl) t a b p =
      (set2 ((set4 (set4 (set2 ((((List.replicate (42 + m) 0).set 12 8).set 14 69).set 22 64 |>.set 23 p) 16 t) 26 a) 30 b).set 34 f) 38 sp).take 42 ++ pl := by
  simp only [List.take_set, take_set2, take_set4, take_zeros]
  kernel_rfl
theorem frames_other (a b p t : Int) (m : Nat) (pl : List Int) :
    headOf ((List.replicate (34 + m) 0).take 34 ++ pl) t a b p =
      (set4 (set4 (set2 ((((List.replicate (34 + m) 0).set 12 8).set 14 69).set 22 64 |>.set 23 p) 16 t) 26 a) 30 b).take 34 ++ pl := by
  simp only [List.take_set, take_set2, take_set4, take_zeros]
  kernel_rfl
end Go.Proofs.YtclpnafiiobfhaaDoor

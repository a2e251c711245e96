import Derived.Test.YtclpnafiiobfhaaDoorRefBuild
import Derived.Test.YtclpnafiiobfhaaDoorFrames
namespace Go.Proofs.YtclpnafiiobfhaaDoor
open Go.RowKit
set_option linter.unusedVariables false
set_option linter.unusedSimpArgs false

set_option maxHeartbeats 800000 in
theorem refBuild_no (a b p sp dp f : Int) (s : ByteArray) (w : World) (hs : s.size ≤ 262144) (h : 1000 < s.size ∨ mayB p sp dp f = false) :
    Calls Tryd.prog 22 #[.agg #[.int .u32 a, .int .u32 b, .int .u8 p, .int .u16 sp, .int .u16 dp, .int .u8 f], .string s] w fun e w' => e = .returned (.tuple #[.string ⟨#[]⟩, .bool false]) ∧ Below w.heap.size w w' := by
  cases hm : mayB p sp dp f
  · have HM : Hid (mayB p sp dp f = false) := hm
    clear h hm
    go_enter Tryd.func22, Tryd.ntmps22
    go_wp2_with (go_at_call 32; refine (may_any _ _ _ _ _ _ _).mono ?_; rintro e w' ⟨rfl, rfl⟩; rw [HM.out])
    go_ret2
    exact ⟨rfl, ((Below.refl _ _).alloc (Nat.le_refl _) _).alloc (by simp) _⟩
  · have hl : (1000 : Int) < (s.size : Int) := by
      rcases h with h | h
      · omega
      · rw [hm] at h; cases h
    have HM : Hid (mayB p sp dp f = true) := hm
    clear h hm
    go_enter Tryd.func22, Tryd.ntmps22
    go_wp2_with (go_at_call 32; refine (may_any _ _ _ _ _ _ _).mono ?_; rintro e w' ⟨rfl, rfl⟩; rw [HM.out])
    go_ret2
    exact ⟨rfl, ((Below.refl _ _).alloc (Nat.le_refl _) _).alloc (by simp) _⟩

theorem refBuild_yes (a b p sp dp f : Int) (s : ByteArray) (w : World) (hra : 0 ≤ a ∧ a ≤ 4294967295) (hrb : 0 ≤ b ∧ b ≤ 4294967295) (hrp : 0 ≤ p ∧ p ≤ 255) (hsp : 0 ≤ sp ∧ sp ≤ 65535) (hdp : 0 ≤ dp ∧ dp ≤ 65535) (hf : 0 ≤ f ∧ f ≤ 255) (hm : s.size ≤ 1000) (hmay : mayB p sp dp f = true) (K : Nat) (hK : (K : Int) = 34 + isz p) :
    Calls Tryd.prog 22 #[.agg #[.int .u32 a, .int .u32 b, .int .u8 p, .int .u16 sp, .int .u16 dp, .int .u8 f], .string s] w fun e w' => e = .returned (.tuple #[.string (ofL (frameI a b p sp dp f K (toL s))), .bool true]) ∧ Below w.heap.size w w' := by
  by_cases p6 : p = 6
  · obtain rfl : K = 54 := by simp [isz, p6] at hK; omega
    have h := refBuild_tcp a b p sp dp f s w hra hrb hrp hsp hdp hf hm hmay p6
    rw [← frames_tcp a b p sp dp f (40 + (s.size : Int)) s.size (toL s)] at h
    have e : frameI a b p sp dp f 54 (toL s) = headed ((((set2 (set2 (List.replicate (54 + s.size) 0) 34 sp) 36 dp).set 46 80).set 47 f).take 54 ++ toL s) (40 + (s.size : Int)) a b p := by
      unfold frameI
      rw [toL_len, show innerOf (List.replicate (54 + s.size) 0) p sp dp f (s.size : Int) = (((set2 (set2 (List.replicate (54 + s.size) 0) 34 sp) 36 dp).set 46 80).set 47 f) from by simp [innerOf, p6], show ((54 + s.size : Nat) : Int) - 14 = 40 + (s.size : Int) from by omega]
    rw [e]; exact h
  by_cases p17 : p = 17
  · obtain rfl : K = 42 := by simp [isz, p17] at hK; omega
    have h := refBuild_udp a b p sp dp f s w hra hrb hrp hsp hdp hf hm hmay p17
    rw [← frames_udp a b p sp dp (8 + (s.size : Int)) (28 + (s.size : Int)) s.size (toL s)] at h
    have e : frameI a b p sp dp f 42 (toL s) = headed ((set2 (set2 (set2 (List.replicate (42 + s.size) 0) 34 sp) 36 dp) 38 (8 + (s.size : Int))).take 42 ++ toL s) (28 + (s.size : Int)) a b p := by
      unfold frameI
      rw [toL_len, show innerOf (List.replicate (42 + s.size) 0) p sp dp f (s.size : Int) = set2 (set2 (set2 (List.replicate (42 + s.size) 0) 34 sp) 36 dp) 38 (8 + (s.size : Int)) from by simp [innerOf, p17], show ((42 + s.size : Nat) : Int) - 14 = 28 + (s.size : Int) from by omega]
    rw [e]; exact h
  by_cases p1 : p = 1
  · obtain rfl : K = 42 := by simp [isz, p1] at hK; omega
    have h := refBuild_icmp a b p sp dp f s w hra hrb hrp hsp hdp hf hm hmay p1
    rw [← frames_icmp a b p sp f (28 + (s.size : Int)) s.size (toL s)] at h
    have e : frameI a b p sp dp f 42 (toL s) = headed ((set2 ((List.replicate (42 + s.size) 0).set 34 f) 38 sp).take 42 ++ toL s) (28 + (s.size : Int)) a b p := by
      unfold frameI
      rw [toL_len, show innerOf (List.replicate (42 + s.size) 0) p sp dp f (s.size : Int) = set2 ((List.replicate (42 + s.size) 0).set 34 f) 38 sp from by simp [innerOf, p1], show ((42 + s.size : Nat) : Int) - 14 = 28 + (s.size : Int) from by omega]
    rw [e]; exact h
  · obtain rfl : K = 34 := by simp [isz, p6, p17, p1] at hK; omega
    have h := refBuild_other a b p sp dp f s w hra hrb hrp hsp hdp hf hm hmay p6 p17 p1
    rw [← frames_other a b p (20 + (s.size : Int)) s.size (toL s)] at h
    have e : frameI a b p sp dp f 34 (toL s) = headed ((List.replicate (34 + s.size) 0).take 34 ++ toL s) (20 + (s.size : Int)) a b p := by
      unfold frameI
      rw [toL_len, show innerOf (List.replicate (34 + s.size) 0) p sp dp f (s.size : Int) = List.replicate (34 + s.size) 0 from by simp [innerOf, p6, p17, p1], show ((34 + s.size : Nat) : Int) - 14 = 20 + (s.size : Int) from by omega]
    rw [e]; exact h

theorem frameI_len (a b p sp dp f : Int) (K : Nat) (pl : List Int) : (frameI a b p sp dp f K pl).length = K + pl.length := by
  unfold frameI; simp [headed_len, innerOf_len]
theorem frameI_byt (a b p sp dp f : Int) (K : Nat) (pl : List Int) (hra : 0 ≤ a ∧ a ≤ 4294967295) (hrb : 0 ≤ b ∧ b ≤ 4294967295) (hrp : 0 ≤ p ∧ p ≤ 255) (hsp : 0 ≤ sp ∧ sp ≤ 65535) (hdp : 0 ≤ dp ∧ dp ≤ 65535) (hf : 0 ≤ f ∧ f ≤ 255) (hm : pl.length ≤ 1000) (hY : Byt pl) (hK : (K : Int) = 34 + isz p) : Byt (frameI a b p sp dp f K pl) := by
  have hz := isz_bd p
  have hB : Byt ((innerOf (List.replicate (K + pl.length) 0) p sp dp f pl.length).take K ++ pl) := Byt.append (fun x hx => innerOf_byt (Byt.zeros _) p sp dp f pl.length hsp hdp hf (by omega) x (List.mem_of_mem_take hx)) hY
  have bf := fold_bd (ofL (headOf ((innerOf (List.replicate (K + pl.length) 0) p sp dp f pl.length).take K ++ pl) ((K + pl.length : Nat) - 14 : Int) a b p))
  exact (headOf_byt hB _ _ _ _ (by omega) hra hrb hrp).set2 _ _ (by omega)

theorem nines (l : List Int) (j : Nat) (h : j < l.length) : (List.replicate j 99 ++ l.drop j).set j 99 = List.replicate (j + 1) 99 ++ l.drop (j + 1) := by
  have e : (l.drop j).set 0 99 = 99 :: l.drop (j + 1) := by rw [List.drop_eq_getElem_cons h]; rfl
  rw [List.set_append_right _ _ (by simp), List.length_replicate, Nat.sub_self, e]
  simp [List.replicate_succ']

set_option maxHeartbeats 800000 in
theorem spoilt_any (l : List Int) (g N : Nat) (w : World) (hN : l.length = N) (hl : N ≤ 2000) (hb : Buf w g l) :
    Calls Tryd.prog 23 #[.slice (some ⟨g, 0, none⟩) N N] w fun e w' => e = .returned (.tuple #[]) ∧ Tch g w w' ∧ Buf w' g (List.replicate N 99) := by
  have HB : Hid (Buf w g l) := hb
  have HN : Hid (l.length = N) := hN
  clear hb hN
  go_enter Tryd.func23, Tryd.ntmps23
  go_wp2
  go_loopw [3] (fun i wr => ∃ j : Nat, j ≤ N ∧ i = .int .i64 j ∧ Hid (Tch g w wr) ∧ Hid (Buf wr g (List.replicate j 99 ++ l.drop j))) (fun i _ => N - (intOf i).toNat)
  case atStart => exact ⟨0, Nat.zero_le _, rfl, Tch.refl _ _, HB.out⟩
  case round =>
    obtain ⟨j, hj, rfl, HT, HBj⟩ := hrel
    by_cases hlt : j < N
    · have cj := HBj.out.cell j (by simp [HN.out]; omega)
      have fj := HBj.out.frozen j
      have lj : (j : Int) < (N : Int) := by omega
      go_wp2
      go_roundw
      case rel => exact ⟨j + 1, by omega, by go_num, HT.out.set _ _, (HBj.out.set j 99).congr (nines l j (by rw [HN.out]; exact hlt))⟩
      case measure => simp [intOf]; omega
    · have e : j = N := by omega
      subst e
      go_wp2
      go_end0
      refine ⟨rfl, HT.out, HBj.out.congr ?_⟩
      rw [List.drop_eq_nil_of_le (by rw [HN.out]; exact Nat.le_refl _), List.append_nil]

set_option maxHeartbeats 800000 in
theorem stays_any (g N : Nat) (w : World) (hl : N ≤ 2000) (hb : Buf w g (List.replicate N 99)) :
    Calls Tryd.prog 24 #[.slice (some ⟨g, 0, none⟩) N N] w fun e w' => e = .returned (.bool true) ∧ w' = w := by
  have HB : Hid (Buf w g (List.replicate N 99)) := hb
  clear hb
  go_enter Tryd.func24, Tryd.ntmps24
  go_wp2
  go_loop [4] (fun i => ∃ j : Nat, j ≤ N ∧ i = .int .i64 j) (fun i => N - (intOf i).toNat)
  case atStart => exact ⟨0, Nat.zero_le _, rfl⟩
  case round =>
    obtain ⟨j, hj, rfl⟩ := hrel
    by_cases hlt : j < N
    · have cj : w.cell? ⟨g, j, none⟩ = some (.int .u8 99) := by
        rw [HB.out.cell j (by simp; omega)]; simp [List.getD_eq_getElem?_getD, hlt]
      have lj : (j : Int) < (N : Int) := by omega
      go_wp2
      go_round
      case rel => exact ⟨j + 1, by omega, by go_num⟩
      case measure => simp [intOf]; omega
    · have e : j = N := by omega
      subst e
      go_wp2
      go_ret
      exact ⟨rfl, rfl⟩
end Go.Proofs.YtclpnafiiobfhaaDoor

import Derived.Test.YtclpnafiiobfhabGreatDoorFrBuild
import Derived.Test.YtclpnafiiobfhabGreatDoorTold
namespace Go.Proofs.YtclpnafiiobfhabGreatDoor
open Go.RowKit
set_option linter.unusedVariables false
set_option linter.unusedSimpArgs false

set_option maxHeartbeats 800000 in
theorem frBuild_no (a b p sp dp f : Int) (pa : Option Addr) (m pc : Nat) (w : World) (hm : m ≤ 9000000000000000000) (h : 1000 < m ∨ mayB p sp dp f = false) :
    Calls Tryz.prog 36 #[.agg #[.int .u32 a, .int .u32 b, .int .u8 p, .int .u16 sp, .int .u16 dp, .int .u8 f], .slice pa m pc] w fun e w' => e = .returned (.tuple #[.slice none 0 0, .iface 22 (.int .i64 1)]) ∧ Below w.heap.size w w' := by
  by_cases hl : 1000 < m
  · have hl' : (1000 : Int) < (m : Int) := by omega
    clear h
    go_enter Tryz.func36, Tryz.ntmps36
    go_wp2
    go_ret2
    exact ⟨rfl, (Below.refl _ _).alloc (Nat.le_refl _) _⟩
  · have HM : Hid (mayB p sp dp f = false) := by rcases h with h | h; exact absurd h hl; exact h
    have hl' : (m : Int) ≤ 1000 := by omega
    clear h
    go_enter Tryz.func36, Tryz.ntmps36
    go_wp2_with (go_at_call 58; refine (canBe_any _ _ _ _ _ _ _).mono ?_; rintro e w' ⟨rfl, rfl⟩; rw [HM.out])
    go_ret2
    exact ⟨rfl, ((Below.refl _ _).alloc (Nat.le_refl _) _).alloc (by simp) _⟩

set_option maxHeartbeats 800000 in
theorem fwBuild_no (a b p sp dp f : Int) (pa : Option Addr) (m pc : Nat) (w : World) (hm : m ≤ 9000000000000000000) (h : 1000 < m ∨ mayB p sp dp f = false) :
    Calls Tryz.prog 23 #[.agg #[.int .u32 a, .int .u32 b, .int .u8 p, .int .u16 sp, .int .u16 dp, .int .u8 f], .slice pa m pc] w fun e w' => e = .returned (.tuple #[.slice none 0 0, .iface 22 (.int .i64 1)]) ∧ Below w.heap.size w w' := by
  have HH : Hid (1000 < m ∨ mayB p sp dp f = false) := h
  clear h
  go_enter Tryz.func23, Tryz.ntmps23
  go_wp2_with fail
  refine (frBuild_no a b p sp dp f pa m pc _ hm HH.out).mono ?_
  rintro e w1 ⟨rfl, hb⟩
  go_wp2
  go_ret2
  exact ⟨rfl, ((Below.refl _ _).alloc (Nat.le_refl _) _).trans (hb.mono (by simp))⟩

set_option maxHeartbeats 800000 in
theorem fwBuild_yes (a b p sp dp f : Int) (pa : Option Addr) (pc : Nat) (pl : List Int) (w : World) (hra : 0 ≤ a ∧ a ≤ 4294967295) (hrb : 0 ≤ b ∧ b ≤ 4294967295) (hrp : 0 ≤ p ∧ p ≤ 255) (hsp : 0 ≤ sp ∧ sp ≤ 65535) (hdp : 0 ≤ dp ∧ dp ≤ 65535) (hf : 0 ≤ f ∧ f ≤ 255)
    (hm : pl.length ≤ 1000) (hY : Byt pl) (hP : PayIs w pa pl) (hmay : mayB p sp dp f = true) (K : Nat) (hK : (K : Int) = 34 + isz p) :
    Calls Tryz.prog 23 #[.agg #[.int .u32 a, .int .u32 b, .int .u8 p, .int .u16 sp, .int .u16 dp, .int .u8 f], .slice pa pl.length pc] w fun e w' => ∃ g, e = .returned (.tuple #[.slice (some ⟨g, 0, none⟩) (K + pl.length) (K + pl.length), .nilIface]) ∧ w.heap.size ≤ g ∧ Below w.heap.size w w' ∧ Buf w' g (frameI a b p sp dp f K pl) := by
  have HP : Hid (PayIs w pa pl) := hP
  have HM : Hid (mayB p sp dp f = true) := hmay
  have HK : Hid ((K : Int) = 34 + isz p) := hK
  clear hP hmay hK
  go_enter Tryz.func23, Tryz.ntmps23
  go_wp2_with fail
  refine (frBuild_yes a b p sp dp f pa pc pl _ hra hrb hrp hsp hdp hf hm hY (HP.out.below ((Below.refl _ _).alloc (Nat.le_refl _) _)) HM.out K HK.out).mono ?_
  rintro e w1 ⟨g, rfl, hg, hb, hB⟩
  simp at hg
  go_wp2
  go_ret2
  exact ⟨g, rfl, by omega, ((Below.refl _ _).alloc (Nat.le_refl _) _).trans (hb.mono (by simp)), hB⟩

set_option maxHeartbeats 800000 in
theorem plBuild_no (a b p sp dp f : Int) (pa : Option Addr) (m pc : Nat) (w : World) (hL : Laid w) (hm : m ≤ 9000000000000000000) (h : 1000 < m ∨ mayB p sp dp f = false) :
    Calls Tryz.prog 10 #[.agg #[.int .u32 a, .int .u32 b, .int .u8 p, .int .u16 sp, .int .u16 dp, .int .u8 f], .slice pa m pc] w fun e w' => e = .returned (.tuple #[.slice none 0 0, .int .i64 1]) ∧ Below w.heap.size w w' := by
  have HH : Hid (1000 < m ∨ mayB p sp dp f = false) := h
  have HL : Hid (Laid w) := hL
  clear h hL
  go_enter Tryz.func10, Tryz.ntmps10
  go_wp2_with fail
  refine (fwBuild_no a b p sp dp f pa m pc _ hm HH.out).mono ?_
  rintro e w1 ⟨rfl, hb⟩
  have HB : Hid (Below w.heap.size w w1) := ((Below.refl _ _).alloc (Nat.le_refl _) _).trans (hb.mono (by simp))
  have z1 := HB.out.size
  clear hb
  go_wp2_with fail
  refine (told_kind 1 _ (HL.out.below HB.out)).mono ?_
  rintro e w2 ⟨rfl, hb2⟩
  go_wp2
  go_ret2
  exact ⟨rfl, HB.out.trans (hb2.mono z1)⟩

set_option maxHeartbeats 800000 in
theorem plBuild_yes (a b p sp dp f : Int) (pa : Option Addr) (pc : Nat) (pl : List Int) (w : World) (hra : 0 ≤ a ∧ a ≤ 4294967295) (hrb : 0 ≤ b ∧ b ≤ 4294967295) (hrp : 0 ≤ p ∧ p ≤ 255) (hsp : 0 ≤ sp ∧ sp ≤ 65535) (hdp : 0 ≤ dp ∧ dp ≤ 65535) (hf : 0 ≤ f ∧ f ≤ 255)
    (hm : pl.length ≤ 1000) (hY : Byt pl) (hP : PayIs w pa pl) (hmay : mayB p sp dp f = true) (K : Nat) (hK : (K : Int) = 34 + isz p) :
    Calls Tryz.prog 10 #[.agg #[.int .u32 a, .int .u32 b, .int .u8 p, .int .u16 sp, .int .u16 dp, .int .u8 f], .slice pa pl.length pc] w fun e w' => ∃ g, e = .returned (.tuple #[.slice (some ⟨g, 0, none⟩) (K + pl.length) (K + pl.length), .int .i64 0]) ∧ w.heap.size ≤ g ∧ Below w.heap.size w w' ∧ Buf w' g (frameI a b p sp dp f K pl) := by
  have HP : Hid (PayIs w pa pl) := hP
  have HM : Hid (mayB p sp dp f = true) := hmay
  have HK : Hid ((K : Int) = 34 + isz p) := hK
  clear hP hmay hK
  go_enter Tryz.func10, Tryz.ntmps10
  go_wp2_with fail
  refine (fwBuild_yes a b p sp dp f pa pc pl _ hra hrb hrp hsp hdp hf hm hY (HP.out.below ((Below.refl _ _).alloc (Nat.le_refl _) _)) HM.out K HK.out).mono ?_
  rintro e w1 ⟨g, rfl, hg, hb, hB⟩
  simp at hg
  have HBel : Hid (Below w.heap.size w w1) := ((Below.refl _ _).alloc (Nat.le_refl _) _).trans (hb.mono (by simp))
  have HBuf : Hid (Buf w1 g (frameI a b p sp dp f K pl)) := hB
  have z1 := HBel.out.size
  clear hb hB
  go_wp2_with fail
  refine (told_nil _).mono ?_
  rintro e w2 ⟨rfl, hb2⟩
  go_wp2
  go_ret2
  exact ⟨g, rfl, by omega, HBel.out.trans (hb2.mono z1), HBuf.out.below hb2 HBuf.out.lt⟩
end Go.Proofs.YtclpnafiiobfhabGreatDoor

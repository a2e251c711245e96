import Derived.Test.YtclpnafiiobfhabGreatDoorPlBuild
import Derived.Lib.ConvBytes
import Derived.KernelRfl
namespace Go.Proofs.YtclpnafiiobfhabGreatDoor
open Go.RowKit
set_option linter.unusedVariables false
set_option linter.unusedSimpArgs false

/-- which of n things the raw number c speaks of -/
def pk (c n : Int) : Int := (if c < 0 then -(c + 1) else c) % n
theorem pk_bd (c n : Int) (h : 0 < n) : 0 ≤ pk c n ∧ pk c n < n := ⟨Int.emod_nonneg _ (by omega), Int.emod_lt_of_pos _ h⟩

set_option maxHeartbeats 400000 in
theorem pick_any (c n : Int) (w : World) (hc : -9223372036854775808 ≤ c ∧ c ≤ 9223372036854775807) (hn : 1 ≤ n ∧ n ≤ 100000) :
    Calls Tryz.prog 12 #[.int .i64 c, .int .i64 n] w fun e w' => e = .returned (.int .i64 (pk c n)) ∧ w' = w := by
  have h0 : ¬ n = 0 := by omega
  by_cases h : c < 0
  · have e : pk c n = (-(c + 1)) % n := by simp [pk, h]
    rw [e]
    go_enter Tryz.func12, Tryz.ntmps12
    go_wp2
    go_ret
    exact ⟨ret_int (by rw [← Int.neg_tmod, Int.tmod_eq_emod_of_nonneg (by omega)]), rfl⟩
  · have e : pk c n = c % n := by simp [pk, h]
    rw [e]
    go_enter Tryz.func12, Tryz.ntmps12
    go_wp2
    go_ret
    exact ⟨rfl, rfl⟩

structure Ranges (a b p sp dp f : Int) : Prop where
  a : 0 ≤ a ∧ a ≤ 4294967295
  b : 0 ≤ b ∧ b ≤ 4294967295
  p : 0 ≤ p ∧ p ≤ 255
  sp : 0 ≤ sp ∧ sp ≤ 65535
  dp : 0 ≤ dp ∧ dp ≤ 65535
  f : 0 ≤ f ∧ f ≤ 255
/-- the headers of four kinds that Build takes -/
def Hdr4 (p sp dp f : Int) : Prop := (p = 6 ∧ f ≤ 63) ∨ (p = 17 ∧ f = 0) ∨ (p = 1 ∧ sp = dp ∧ f = 8) ∨ (p = 89 ∧ sp = 0 ∧ dp = 0 ∧ f = 0)
theorem Hdr4.may {p sp dp f : Int} (h : Hdr4 p sp dp f) : mayB p sp dp f = true := by
  rcases h with ⟨rfl, h⟩ | ⟨rfl, rfl⟩ | ⟨rfl, rfl, rfl⟩ | ⟨rfl, rfl, rfl, rfl⟩ <;> simp [mayB]
  exact h
end Go.Proofs.YtclpnafiiobfhabGreatDoor
namespace Go.Proofs.YtclpnafiiobfhabGreatDoor
open Go.RowKit
set_option linter.unusedVariables false
set_option linter.unusedSimpArgs false

set_option maxHeartbeats 1600000 in
/-- a header of TCP -/
theorem kheader_tcp (a b c : Int) (w : World) (hc : -9223372036854775808 ≤ c ∧ c ≤ 9223372036854775807) :
    Calls Tryz.prog 9 #[.int .i64 a, .int .i64 b, .int .i64 c, .int .i64 0] w fun e w' => e = .returned (.agg #[.int .u32 (a % 4294967296), .int .u32 (b % 4294967296), .int .u8 6, .int .u16 (IntKind.u16.wrap c), .int .u16 (IntKind.u16.wrap (c / 65536)), .int .u8 (pk (c / 4294967296) 64)]) ∧ Below w.heap.size w w' := by
  have HK : Hid (pk 0 4 = 0) := show pk 0 4 = 0 by decide
  have hb := pk_bd (c / 4294967296) 64 (by omega)
  have hcb : -9223372036854775808 ≤ c / 4294967296 ∧ c / 4294967296 ≤ 9223372036854775807 := by omega
  go_enter Tryz.func9, Tryz.ntmps9
  go_wp2_with fail
  refine (pick_any 0 4 _ (by omega) (by omega)).mono ?_
  rintro e w1 ⟨rfl, rfl⟩
  rw [HK.out]
  go_wp2_with fail
  refine (pick_any (c / 4294967296) 64 _ hcb (by omega)).mono ?_
  rintro e w1 ⟨rfl, rfl⟩
  go_wp2
  refine bodyPost_ret (v := .agg #[.int .u32 (a % 4294967296), .int .u32 (b % 4294967296), .int .u8 6, .int .u16 (IntKind.u16.wrap c), .int .u16 (IntKind.u16.wrap (c / 65536)), .int .u8 (pk (c / 4294967296) 64)]) (by simp [results, Tryz.results9, go_sem]) rfl ⟨rfl, ?_⟩
  exact ((Below.refl _ _).alloc (Nat.le_refl _) _).alloc (by simp) _
/-- what a frame of TCP says -/
structure TcpFrame (d : ByteArray) (a b sp dp : Int) : Prop where
  size : d.size = 54
  proto : numv d 23 1 = 6
  src : numv d 26 4 = a
  dst : numv d 30 4 = b
  sport : numv d 34 2 = sp
  dport : numv d 36 2 = dp
theorem frame_byt (a b p sp dp f : Int) (K : Nat) (pl : List Int) (hr : Ranges a b p sp dp f) (hm : pl.length ≤ 1000) (hY : Byt pl) (hK : (K : Int) = 34 + isz p) : Byt (frameI a b p sp dp f K pl) := by
  have hz := isz_bd p
  have hB : Byt ((innerOf (List.replicate (K + pl.length) 0) p sp dp f pl.length).take K ++ pl) := Byt.append (fun x hx => innerOf_byt (Byt.zeros _) p sp dp f pl.length hr.sp hr.dp hr.f (by omega) x (List.mem_of_mem_take hx)) hY
  have bf := fold_bd (ofL (headOf ((innerOf (List.replicate (K + pl.length) 0) p sp dp f pl.length).take K ++ pl) ((K + pl.length : Nat) - 14 : Int) a b p))
  exact (headOf_byt hB _ _ _ _ (by omega) hr.a hr.b hr.p).set2 _ _ (by omega)
theorem frame_sets (a b p sp dp f : Int) (K : Nat) (pl : List Int) : ∃ v, frameI a b p sp dp f K pl = set2 (headOf ((innerOf (List.replicate (K + pl.length) 0) p sp dp f pl.length).take K ++ pl) ((K + pl.length : Nat) - 14 : Int) a b p) 24 v := by
  unfold frameI headed
  exact ⟨_, rfl⟩
def tcpL (a b sp dp f v : Int) : List Int := [0, 0, 0, 0, 0, 0, 0, 0, 0, 0, 0, 0, 8, 0, 69, 0, 0, 40, 0, 0, 0, 0, 64, 6, v / 256, v % 256,
  a / 65536 / 256, a / 65536 % 256, a % 65536 / 256, a % 65536 % 256, b / 65536 / 256, b / 65536 % 256, b % 65536 / 256, b % 65536 % 256,
  sp / 256, sp % 256, dp / 256, dp % 256, 0, 0, 0, 0, 0, 0, 0, 0, 80, f, 0, 0, 0, 0, 0, 0]
theorem tcp_list (a b sp dp f v : Int) : set2 (headOf ((innerOf (List.replicate (54 + ([] : List Int).length) 0) 6 sp dp f ([] : List Int).length).take 54 ++ []) ((54 + ([] : List Int).length : Nat) - 14 : Int) a b 6) 24 v = tcpL a b sp dp f v := by kernel_rfl
theorem tcp_is (a b sp dp f v : Int) (hr : Ranges a b 6 sp dp f) (hB : Byt (tcpL a b sp dp f v)) : TcpFrame (ofL (tcpL a b sp dp f v)) a b sp dp := by
  have h0 := hr.a; have h1 := hr.b; have h2 := hr.sp; have h3 := hr.dp
  have g : ∀ i x, (tcpL a b sp dp f v).getD i 0 = x → nth (ofL (tcpL a b sp dp f v)) i = x := fun i x h => (ofL_nth _ hB i).trans h
  refine ⟨by rw [ofL_size]; rfl, ?_, ?_, ?_, ?_, ?_⟩
  · rw [numv_s, numv_0, Nat.add_zero, g 23 6 rfl]; omega
  · rw [numv_s, numv_s, numv_s, numv_s, numv_0, Nat.add_zero, g 26 (a / 65536 / 256) rfl, g (26 + 1) (a / 65536 % 256) rfl, g (26 + 2) (a % 65536 / 256) rfl, g (26 + 3) (a % 65536 % 256) rfl]; omega
  · rw [numv_s, numv_s, numv_s, numv_s, numv_0, Nat.add_zero, g 30 (b / 65536 / 256) rfl, g (30 + 1) (b / 65536 % 256) rfl, g (30 + 2) (b % 65536 / 256) rfl, g (30 + 3) (b % 65536 % 256) rfl]; omega
  · rw [numv_s, numv_s, numv_0, Nat.add_zero, g 34 (sp / 256) rfl, g (34 + 1) (sp % 256) rfl]; omega
  · rw [numv_s, numv_s, numv_0, Nat.add_zero, g 36 (dp / 256) rfl, g (36 + 1) (dp % 256) rfl]; omega
theorem tcp_frame (a b sp dp f : Int) (hr : Ranges a b 6 sp dp f) : Byt (frameI a b 6 sp dp f 54 []) ∧ TcpFrame (ofL (frameI a b 6 sp dp f 54 [])) a b sp dp := by
  have hB := frame_byt a b 6 sp dp f 54 [] hr (by simp) (fun x hx => by cases hx) (by decide)
  obtain ⟨v, e⟩ := frame_sets a b 6 sp dp f 54 []
  rw [tcp_list] at e
  rw [e] at hB ⊢
  exact ⟨hB, tcp_is a b sp dp f v hr hB⟩
end Go.Proofs.YtclpnafiiobfhabGreatDoor

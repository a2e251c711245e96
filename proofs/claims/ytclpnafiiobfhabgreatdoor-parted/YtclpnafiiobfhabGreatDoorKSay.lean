import Derived.Test.YtclpnafiiobfhabGreatDoorRText
import Derived.Test.YtclpnafiiobfhabGreatDoorBuf
import Derived.Test.YtclpnafiiobfhabGreatDoorProg
import Derived.Lib.SlBytesRow
import Derived.Lib.ConvBytes
import Derived.KernelRfl
import Derived.Test.YtclpnafiiobfhabGreatDoorPlCompile
import Derived.Test.YtclpnafiiobfhabGreatDoorMExecs
import Derived.Test.YtclpnafiiobfhabGreatDoorKHead
namespace Go.Proofs.YtclpnafiiobfhabGreatDoor
open Go.RowKit
set_option linter.unusedVariables false
set_option linter.unusedSimpArgs false

theorem ba_append (a b : List UInt8) : ba a ++ ba b = ba (a ++ b) := by
  apply bl_inj
  rw [bl_ba]
  unfold bl
  rw [ByteArray.data_append]
  simp [ba]
theorem conv_one (W : World) (x : Int) (hx : 0 ≤ x ∧ x ≤ 255) (cap : Nat) : (convert 30 9 (.slice (some ⟨W.heap.size, 0, none⟩) 1 cap)).run Tryz.prog (W.alloc (.cells #[.int .u8 x] 5)) = .ok (.string (ba [UInt8.ofNat x.toNat])) (W.alloc (.cells #[.int .u8 x] 5)) := by
  have := Lib.run_convert_whole (P := Tryz.prog) (W.alloc (.cells #[.int .u8 x] 5)) 30 5 9 Tryz.underlying30 Tryz.underlying5 Tryz.underlying9 W.heap.size 0 (ba [UInt8.ofNat x.toNat]) (fun i hi => by
    have h0 : i = 0 := by rw [ba_size] at hi; simp at hi; exact hi
    subst h0
    rw [World.cell?_alloc_at _ _ _ _ rfl, nth_at _ _ hi]
    have : nth (ba [UInt8.ofNat x.toNat]) 0 = x := by
      show (((UInt8.ofNat x.toNat).toNat : Nat) : Int) = x
      rw [UInt8.toNat_ofNat']; omega
    rw [this]; rfl) cap
  exact this
theorem digit_of (v : Int) (h : 0 ≤ v ∧ v ≤ 9) : UInt8.ofNat (48 + v).toNat = UInt8.ofNat (48 + v.toNat) := by
  congr 1; omega
set_option maxHeartbeats 1600000 in
theorem knum_any : ∀ (k : Nat) (v : Nat), v < k → v < 100000 → ∀ w : World, Calls Tryz.prog 13 #[.int .i64 (v : Int)] w fun e w' => e = .returned (.string (ba (dec v))) ∧ Below w.heap.size w w'
  | 0, v, h, _, w => by omega
  | k + 1, v, h, hm, w => by
    have hcv := conv_one
    by_cases h10 : v < 10
    · have h1 : (v : Int) < 10 := by omega
      have hd := dec_small h10
      have e1 : ba (dec v) = ba [UInt8.ofNat (48 + (v : Int)).toNat] := by rw [hd, digit_of _ (by omega)]; rfl
      rw [e1]
      clear hd e1
      have hcv' := fun W => conv_one W (48 + (v : Int)) (by omega) 1
      clear hcv
      go_enter Tryz.func13, Tryz.ntmps13
      go_wp2_with fail
      go_ret
      exact ⟨rfl, (Below.refl _ _).alloc (Nat.le_refl _) _⟩
    · have h1 : (10 : Int) ≤ (v : Int) := by omega
      have HR : Hid (∀ w : World, Calls Tryz.prog 13 #[.int .i64 ((v / 10 : Nat) : Int)] w fun e w' => e = .returned (.string (ba (dec (v / 10)))) ∧ Below w.heap.size w w') := knum_any k (v / 10) (by omega) (by omega)
      have hd := dec_big h10
      have e1 : ba (dec v) = ba (dec (v / 10)) ++ ba [UInt8.ofNat (48 + (v : Int) % 10).toNat] := by
        rw [hd, ba_append, digit_of _ (by omega)]
        congr 3
      have hcv' := fun W => conv_one W (48 + (v : Int) % 10) (by omega) 1
      have z1 : (ba (dec (v / 10))).size ≤ 1000 := by
        rw [ba_size]; have := dec_len (v / 10) (by omega); omega
      have z2 : (ba [UInt8.ofNat (48 + (v : Int) % 10).toNat]).size = 1 := by rw [ba_size]; rfl
      rw [e1]
      generalize ba [UInt8.ofNat (48 + (v : Int) % 10).toNat] = S at hcv' z2 ⊢
      generalize ba (dec (v / 10)) = T at HR z1 ⊢
      clear hd e1 hcv
      go_enter Tryz.func13, Tryz.ntmps13
      go_wp2_with (go_at_call 13; refine (HR.out _).mono ?_; rintro e W1 ⟨rfl, hb1⟩)
      go_ret
      exact ⟨rfl, hb1.alloc hb1.size _⟩
end Go.Proofs.YtclpnafiiobfhabGreatDoor
namespace Go.Proofs.YtclpnafiiobfhabGreatDoor
open Go.RowKit
set_option linter.unusedVariables false
set_option linter.unusedSimpArgs false

set_option maxHeartbeats 3200000 in
/-- what a text's code says of a frame -/
theorem verdict_any (s d : ByteArray) (b : Bk) (n : Nat) (fb fc : Nat) (i t : Int) (w : World) (hm : MaxL w) (hL : Laid w) (hs : s.size ≤ 2000) (hr : readT s = (0, n, b)) (hd : Row w fb 0 d) (hfb : fb < w.heap.size) (h34 : 34 ≤ d.size) (hdz : d.size ≤ 2000) (hfc : d.size ≤ fc) (hfm : fc ≤ maxLen) (hi : 0 ≤ i ∧ i ≤ 255) (ht : 0 ≤ t ∧ t ≤ 2) :
    Calls Tryz.prog 11 #[.string s, .slice (some ⟨fb, 0, none⟩) d.size fc, .int .i64 i, .int .i64 t] w fun e w' => e = .returned (.tuple #[.int .u8 (verdB b.pol d (i, t) b.rs : Int), .bool true]) ∧ Below w.heap.size w w' := by
  have hml : s.size ≤ maxLen := by unfold maxLen; omega
  have HC : Hid (Calls _ _ _ w _) := plCompile_any s w hm hL hml
  have hgb : GoodB b := by have := read_good s; rw [hr] at this; exact this
  obtain ⟨z, hG⟩ := book_goes b hgb d (i, t) (by omega) h34 (by dsimp only; omega) (by dsimp only; omega)
  have hF := book_fine _ b hgb (book_code b hgb)
  have hR : Ran (codeS (bookL b)) d (i, t) (verdB b.pol d (i, t) b.rs : Int) z 0 := .inr ⟨_, hF.toFormed, hG⟩
  have hcz : codeT s = codeS (bookL b) := by unfold codeT; rw [hr]
  rw [hcz, hr] at HC
  dsimp only at HC
  have HE : Hid (∀ (g c : Nat) (W : World), Below w.heap.size w W → W.ownsRow w.heap.size 5 1 (.slice (some ⟨g, 0, none⟩) (codeS (bookL b)).size c) (codeS (bookL b)).size (codeB (bookL b)) → Calls Tryz.prog 25 #[.slice (some ⟨g, 0, none⟩) (codeS (bookL b)).size c, .slice (some ⟨fb, 0, none⟩) d.size fc, .agg #[.int .u32 i, .int .u32 t]] W fun e w' => e = .returned (.tuple #[.int .u8 (verdB b.pol d (i, t) b.rs : Int), .int .i64 z, .int .i64 0]) ∧ Below W.heap.size W w') := fun g c W hW hO => by
    obtain ⟨p, c', e, hp⟩ := own_form hO
    have hpos : 0 < (codeS (bookL b)).size := by rw [hF.size]; have := hF.pos; omega
    obtain ⟨g', e', hg, hlt, hn, hcm⟩ := hp hpos
    subst e'
    injection e with e1 e2 e3
    injection e1 with e1
    injection e1 with e1
    subst e1 e3
    exact plExec_any (codeS (bookL b)) d (i, t) _ z 0 g 0 c fb 0 fc W (hL.below hW) hR hn hcm hlt (own_code hO (book_bd b hgb) rfl) (fun j hj => (hW.cell (p := ⟨fb, 0 + j, none⟩) hfb).trans (hd j hj)) (Nat.lt_of_lt_of_le hfb hW.size) hfc hfm (by omega) (by dsimp only; omega) (by dsimp only; omega)
  generalize (codeS (bookL b)).size = Z at HC HE
  obtain ⟨V, hV⟩ : ∃ V : Int, (verdB b.pol d (i, t) b.rs : Int) = V := ⟨_, rfl⟩
  rw [hV] at HE
  rw [hV]
  have wi : i % 4294967296 = i := by omega
  have wt : t % 4294967296 = t := by omega
  clear hr hm hL hml hgb hG hF hR hcz hd hV
  go_enter Tryz.func11, Tryz.ntmps11
  go_wp2_with (first | (go_at_call 24; refine HC.out.mono ?_; rintro e W1 ⟨h1, h2, hb1⟩; obtain ⟨g, c, rfl, hO⟩ := h2 rfl; clear h1 h2; have HE1 : Hid (Calls _ _ _ W1 _) := HE.out g c W1 hb1 hO) | (go_at_call 25; refine HE1.out.mono ?_; rintro e W2 ⟨rfl, hb2⟩))
  go_ret2
  exact ⟨rfl, hb1.trans (hb2.mono hb1.size)⟩
end Go.Proofs.YtclpnafiiobfhabGreatDoor
namespace Go.Proofs.YtclpnafiiobfhabGreatDoor
open Go.RowKit
set_option linter.unusedVariables false
set_option linter.unusedSimpArgs false

theorem hdr_cell {w1 w2 : World} {cs : Array Value} {t : TypeId} (hb : Below (w1.alloc (.cells cs t)).heap.size (w1.alloc (.cells cs t)) w2) (i : Nat) (v : Value) (h : cs[i]? = some v) : w2.cell? ⟨w1.heap.size, i, none⟩ = some v ∧ w1.heap.size + 1 ≤ w2.heap.size := by
  have hz := hb.size
  have e : (w1.alloc (.cells cs t)).heap.size = w1.heap.size + 1 := by simp
  rw [e] at hz hb
  refine ⟨(hb.cell (p := ⟨w1.heap.size, i, none⟩) (by show w1.heap.size < w1.heap.size + 1; omega)).trans ?_, hz⟩
  rw [World.cell?_alloc_at _ _ _ _ rfl, h]
/-- what a text's code says of a frame of TCP that was built -/
theorem verdict_tcp (s : ByteArray) (b : Bk) (n : Nat) (FL : List Int) (g : Nat) (i t : Int) {a0 b0 sp dp : Int} (w W : World) (hm : MaxL w) (hL : Laid w) (hW : Below w.heap.size w W) (hs : s.size ≤ 2000) (hr : readT s = (0, n, b)) (hB : Buf w g FL) (hY : Byt FL) (hF : TcpFrame (ofL FL) a0 b0 sp dp) (hi : 0 ≤ i ∧ i ≤ 255) (ht : 0 ≤ t ∧ t ≤ 2) :
    Calls Tryz.prog 11 #[.string s, .slice (some ⟨g, 0, none⟩) 54 54, .int .i64 i, .int .i64 t] W fun e w' => e = .returned (.tuple #[.int .u8 (verdB b.pol (ofL FL) (i, t) b.rs : Int), .bool true]) ∧ Below w.heap.size w w' := by
  have hB' := hB.below hW hB.lt
  have h := verdict_any s (ofL FL) b n g 54 i t W (hm.below hW) (hL.below hW) hs hr (hB'.row hY) hB'.lt (by rw [hF.size]; decide) (by rw [hF.size]; decide) (by rw [hF.size]; decide) (by decide) hi ht
  rw [hF.size] at h
  exact h.mono fun e w' ⟨h1, h2⟩ => ⟨h1, hW.trans (h2.mono hW.size)⟩
theorem num_hid (o : Nat) (h : o < 65536) (W : World) : ∀ W' : World, Below W.heap.size W W' → Calls Tryz.prog 13 #[.int .i64 (o : Int)] W' fun e w' => e = .returned (.string (ba (dec o))) ∧ Below W.heap.size W w' := fun W' hW =>
  (knum_any (o + 1) o (by omega) (by omega) W').mono fun e w' ⟨h1, h2⟩ => ⟨h1, hW.trans (h2.mono hW.size)⟩
theorem dec_size (o : Nat) (h : o < 65536) : (ba (dec o)).size ≤ 5 := by
  rw [ba_size]; exact dec_len o (by omega)
end Go.Proofs.YtclpnafiiobfhabGreatDoor

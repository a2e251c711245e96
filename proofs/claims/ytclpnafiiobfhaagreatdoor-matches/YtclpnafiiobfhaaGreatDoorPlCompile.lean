import Derived.Test.YtclpnafiiobfhaaGreatDoorItemAll
import Derived.Test.YtclpnafiiobfhaaGreatDoorTold
namespace Go.Proofs.YtclpnafiiobfhaaGreatDoor
open Go.RowKit
set_option linter.unusedVariables false
set_option linter.unusedSimpArgs false

theorem own_code {w : World} {B g n c : Nat} {L : List Ins} (h : w.ownsRow B 5 1 (.slice (some ⟨g, 0, none⟩) n c) n (codeB L)) (hb : ∀ x ∈ L, x.Bd) (hn : n = (codeS L).size) : Row w g 0 (codeS L) := fun i hi => by
  rw [Nat.zero_add, h.cellAt i (by omega), codeB_N, List.getElem?_map]
  have hl : i < (codeN L).length := by unfold codeS at hi; rw [ofL_size] at hi; exact hi
  rw [List.getElem?_eq_getElem hl]
  unfold codeS
  rw [ofL_nth _ (codeN_byt L hb), List.getD_eq_getElem?_getD, List.getElem?_eq_getElem hl]
  rfl
/-- a text's code, if it has one -/
abbrev codeT (s : ByteArray) : ByteArray := codeS (bookL (readT s).2.2)
theorem codeT_size (s : ByteArray) : (codeT s).size = 8 * (bookL (readT s).2.2).length := by unfold codeT codeS; rw [ofL_size, codeN_len]

set_option maxHeartbeats 1600000 in
theorem fwCompile_any (s : ByteArray) (w : World) (hm : MaxL w) (hL : Laid w) (hs : s.size ≤ maxLen) :
    Calls Tryz.prog 45 #[.string s] w fun e w' =>
      ((readT s).1 ≠ 0 → ∃ ev, e = .returned (.tuple #[.slice none 0 0, ev]) ∧ RuleErr w w' ev (readT s).1 (readT s).2.1) ∧ ((readT s).1 = 0 → ∃ v, e = .returned (.tuple #[v, .nilIface]) ∧ w'.ownsRow w.heap.size 5 1 v (8 * (bookL (readT s).2.2).length) (codeB (bookL (readT s).2.2))) ∧ Below w.heap.size w w' := by
  have HC : Hid (Calls _ _ _ w _) := compile_any s w hm hL hs (fun _ => book_kbd _ (read_good s))
  clear hm hL hs
  obtain ⟨k, n, b, hk⟩ : ∃ k n b, readT s = (k, n, b) := ⟨_, _, _, rfl⟩
  rw [hk] at HC
  rw [hk]
  clear hk
  dsimp only at HC ⊢
  by_cases h0 : k = 0
  · subst h0
    go_enter Tryz.func45, Tryz.ntmps45
    go_wp2_with (go_at_call 78; refine HC.out.mono ?_; rintro e W1 ⟨h1, h2, hb1⟩; obtain ⟨v, rfl, hO⟩ := h2 rfl; clear h1 h2)
    go_ret2
    exact ⟨fun q => absurd rfl q, fun _ => ⟨_, rfl, hO⟩, hb1⟩
  · go_enter Tryz.func45, Tryz.ntmps45
    go_wp2_with (go_at_call 78; refine HC.out.mono ?_; rintro e W1 ⟨h1, h2, hb1⟩; obtain ⟨ev, rfl, hE⟩ := h1 h0; clear h1 h2)
    go_ret2
    exact ⟨fun _ => ⟨_, rfl, hE⟩, fun q => absurd q h0, hb1⟩
set_option maxHeartbeats 1600000 in
theorem plCompile_any (s : ByteArray) (w : World) (hm : MaxL w) (hL : Laid w) (hs : s.size ≤ maxLen) :
    Calls Tryz.prog 27 #[.string s] w fun e w' =>
      ((readT s).1 ≠ 0 → e = .returned (.tuple #[.slice none 0 0, .int .i64 ((readT s).1 : Int), .int .i64 ((readT s).2.1 : Int)])) ∧
      ((readT s).1 = 0 → ∃ g c, e = .returned (.tuple #[.slice (some ⟨g, 0, none⟩) (codeT s).size c, .int .i64 0, .int .i64 0]) ∧ w'.ownsRow w.heap.size 5 1 (.slice (some ⟨g, 0, none⟩) (codeT s).size c) (codeT s).size (codeB (bookL (readT s).2.2))) ∧ Below w.heap.size w w' := by
  have HC : Hid (Calls _ _ _ w _) := fwCompile_any s w hm hL hs
  have HL : Hid (Laid w) := hL
  clear hm hL hs
  have hz := codeT_size s
  have hpos : 0 < (bookL (readT s).2.2).length := by rw [bookL_items]; simp only [List.length_append, List.length_cons]; omega
  unfold codeT at hz ⊢
  obtain ⟨k, n, b, hk⟩ : ∃ k n b, readT s = (k, n, b) := ⟨_, _, _, rfl⟩
  rw [hk] at HC hz hpos
  rw [hk]
  clear hk
  dsimp only at HC hz hpos ⊢
  rw [hz]
  clear hz
  by_cases h0 : k = 0
  · subst h0
    go_enter Tryz.func27, Tryz.ntmps27
    go_wp2_with (first | (go_at_call 45; refine HC.out.mono ?_; rintro e W1 ⟨h1, h2, hb1⟩; obtain ⟨v, rfl, hO⟩ := h2 rfl; clear h1 h2) | (go_at_call 19; refine (told_nil _).mono ?_; rintro e W2 ⟨rfl, hb2⟩))
    obtain ⟨p, c, rfl, hp⟩ := own_form hO
    obtain ⟨g, rfl, hg, hlt, hn, hcm⟩ := hp (by omega)
    refine bodyPost_ret (v := .tuple #[.slice (some ⟨g, 0, none⟩) (8 * (bookL b).length) c, .int .i64 0, .int .i64 0]) (by simp [results, Tryz.results27, go_sem]) rfl ?_
    exact ⟨fun q => absurd rfl q, fun _ => ⟨g, c, rfl, own_keep hO (fun g' q => hb2.block g' ((hO.lt g' q).2))⟩, hb1.trans (hb2.mono hb1.size)⟩
  · go_enter Tryz.func27, Tryz.ntmps27
    go_wp2_with (first | (go_at_call 45; refine HC.out.mono ?_; rintro e W1 ⟨h1, h2, hb1⟩; obtain ⟨ev, rfl, hE⟩ := h1 h0; obtain ⟨⟨cc, rfl, q1, q2, q3, q4⟩⟩ := hE; clear h1 h2) | (go_at_call 19; refine (told_rule cc _ _ _ (HL.out.below hb1) q2 q3 q4).mono ?_; rintro e W2 ⟨rfl, hb2⟩))
    refine bodyPost_ret (v := .tuple #[.slice none 0 0, .int .i64 (k : Int), .int .i64 (n : Int)]) (by simp [results, Tryz.results27, go_sem]) rfl ?_
    exact ⟨fun _ => rfl, fun q => absurd q h0, hb1.trans (hb2.mono hb1.size)⟩
end Go.Proofs.YtclpnafiiobfhaaGreatDoor

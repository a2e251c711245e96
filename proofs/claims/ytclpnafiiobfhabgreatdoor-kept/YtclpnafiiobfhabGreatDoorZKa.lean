import Derived.Test.YtclpnafiiobfhabGreatDoorItemAll
import Derived.Test.YtclpnafiiobfhabGreatDoorTold
import Derived.Test.YtclpnafiiobfhabGreatDoorRText
import Derived.Test.YtclpnafiiobfhabGreatDoorKHead
import Derived.Test.YtclpnafiiobfhabGreatDoorCNets
import Derived.Test.YtclpnafiiobfhabGreatDoorBuf
import Derived.Test.YtclpnafiiobfhabGreatDoorProg
import Derived.Lib.SlBytesRow
import Derived.Lib.ConvBytes
import Derived.KernelRfl
import Derived.Test.YtclpnafiiobfhabGreatDoorZMb
namespace Go.Proofs.YtclpnafiiobfhabGreatDoor
open Go.RowKit
set_option linter.unusedVariables false
set_option linter.unusedSimpArgs false

theorem own_code {w : World} {B g n c : Nat} {L : List Ins} (h : w.ownsRow B 5 1 (.slice (some ⟨g, 0, none⟩) n c) n (codeB L)) (hb : ∀ x ∈ L, x.Bd) (hn : n = (codeS L).size) : Row w g 0 (codeS L) := fun i hi => by
  rw [Nat.zero_add, h.cellAt i (by omega), codeB_N, List.getElem?_map]
  have hl : i < (codeN L).length := by unfold codeS at hi; rw [ofL_size] at hi; exact hi
  rw [List.getElem?_eq_getElem hl]
  unfold codeS
  rw [ofL_nth _ (codeN_byt L hb), List.getD_eq_getElem?_getD, List.getElem?_eq_getElem hl]
  rfl
/-- a text's code, if it has one -/
abbrev codeT (s : ByteArray) : ByteArray := codeS (bookL (readT s).2.2)
theorem codeT_size (s : ByteArray) : (codeT s).size = 8 * (bookL (readT s).2.2).length := by unfold codeT codeS; rw [ofL_size, codeN_len]

set_option maxHeartbeats 1600000 in
theorem fwCompile_any (s : ByteArray) (w : World) (hm : MaxL w) (hL : Laid w) (hs : s.size ≤ maxLen) :
    Calls Tryz.prog 37 #[.string s] w fun e w' =>
      ((readT s).1 ≠ 0 → ∃ ev, e = .returned (.tuple #[.slice none 0 0, ev]) ∧ RuleErr w w' ev (readT s).1 (readT s).2.1) ∧ ((readT s).1 = 0 → ∃ v, e = .returned (.tuple #[v, .nilIface]) ∧ w'.ownsRow w.heap.size 5 1 v (8 * (bookL (readT s).2.2).length) (codeB (bookL (readT s).2.2))) ∧ Below w.heap.size w w' := by
  have HC : Hid (Calls _ _ _ w _) := compile_any s w hm hL hs (fun _ => book_kbd _ (read_good s))
  clear hm hL hs
  obtain ⟨k, n, b, hk⟩ : ∃ k n b, readT s = (k, n, b) := ⟨_, _, _, rfl⟩
  rw [hk] at HC
  rw [hk]
  clear hk
  dsimp only at HC ⊢
  by_cases h0 : k = 0
  · subst h0
    go_enter Tryz.func37, Tryz.ntmps37
    go_wp2_with (go_at_call 45; refine HC.out.mono ?_; rintro e W1 ⟨h1, h2, hb1⟩; obtain ⟨v, rfl, hO⟩ := h2 rfl; clear h1 h2)
    go_ret2
    exact ⟨fun q => absurd rfl q, fun _ => ⟨_, rfl, hO⟩, hb1⟩
  · go_enter Tryz.func37, Tryz.ntmps37
    go_wp2_with (go_at_call 45; refine HC.out.mono ?_; rintro e W1 ⟨h1, h2, hb1⟩; obtain ⟨ev, rfl, hE⟩ := h1 h0; clear h1 h2)
    go_ret2
    exact ⟨fun _ => ⟨_, rfl, hE⟩, fun q => absurd q h0, hb1⟩
set_option maxHeartbeats 1600000 in
theorem plCompile_any (s : ByteArray) (w : World) (hm : MaxL w) (hL : Laid w) (hs : s.size ≤ maxLen) :
    Calls Tryz.prog 24 #[.string s] w fun e w' =>
      ((readT s).1 ≠ 0 → e = .returned (.tuple #[.slice none 0 0, .int .i64 ((readT s).1 : Int), .int .i64 ((readT s).2.1 : Int)])) ∧
      ((readT s).1 = 0 → ∃ g c, e = .returned (.tuple #[.slice (some ⟨g, 0, none⟩) (codeT s).size c, .int .i64 0, .int .i64 0]) ∧ w'.ownsRow w.heap.size 5 1 (.slice (some ⟨g, 0, none⟩) (codeT s).size c) (codeT s).size (codeB (bookL (readT s).2.2))) ∧ Below w.heap.size w w' := by
  have HC : Hid (Calls _ _ _ w _) := fwCompile_any s w hm hL hs
  have HL : Hid (Laid w) := hL
  clear hm hL hs
  have hz := codeT_size s
  have hpos : 0 < (bookL (readT s).2.2).length := by rw [bookL_items]; simp only [List.length_append, List.length_cons]; omega
  unfold codeT at hz ⊢
  obtain ⟨k, n, b, hk⟩ : ∃ k n b, readT s = (k, n, b) := ⟨_, _, _, rfl⟩
  rw [hk] at HC hz hpos
  rw [hk]
  clear hk
  dsimp only at HC hz hpos ⊢
  rw [hz]
  clear hz
  by_cases h0 : k = 0
  · subst h0
    go_enter Tryz.func24, Tryz.ntmps24
    go_wp2_with (first | (go_at_call 37; refine HC.out.mono ?_; rintro e W1 ⟨h1, h2, hb1⟩; obtain ⟨v, rfl, hO⟩ := h2 rfl; clear h1 h2) | (go_at_call 22; refine (told_nil _).mono ?_; rintro e W2 ⟨rfl, hb2⟩))
    obtain ⟨p, c, rfl, hp⟩ := own_form hO
    obtain ⟨g, rfl, hg, hlt, hn, hcm⟩ := hp (by omega)
    refine bodyPost_ret (v := .tuple #[.slice (some ⟨g, 0, none⟩) (8 * (bookL b).length) c, .int .i64 0, .int .i64 0]) (by simp [results, Tryz.results24, go_sem]) rfl ?_
    exact ⟨fun q => absurd rfl q, fun _ => ⟨g, c, rfl, own_keep hO (fun g' q => hb2.block g' ((hO.lt g' q).2))⟩, hb1.trans (hb2.mono hb1.size)⟩
  · go_enter Tryz.func24, Tryz.ntmps24
    go_wp2_with (first | (go_at_call 37; refine HC.out.mono ?_; rintro e W1 ⟨h1, h2, hb1⟩; obtain ⟨ev, rfl, hE⟩ := h1 h0; obtain ⟨⟨cc, rfl, q1, q2, q3, q4⟩⟩ := hE; clear h1 h2) | (go_at_call 22; refine (told_rule cc _ _ _ (HL.out.below hb1) q2 q3 q4).mono ?_; rintro e W2 ⟨rfl, hb2⟩))
    refine bodyPost_ret (v := .tuple #[.slice none 0 0, .int .i64 (k : Int), .int .i64 (n : Int)]) (by simp [results, Tryz.results24, go_sem]) rfl ?_
    exact ⟨fun _ => rfl, fun q => absurd q h0, hb1.trans (hb2.mono hb1.size)⟩
end Go.Proofs.YtclpnafiiobfhabGreatDoor
namespace Go.Proofs.YtclpnafiiobfhabGreatDoor
open Go.RowKit
set_option linter.unusedVariables false
set_option linter.unusedSimpArgs false

def csU : Cs := [none, none, none, some [17], none, none, none, none]
def csD (p : Nat) : Cs := [none, none, none, some [6], none, some [p, p], none, none]
def csS (a b : Nat) : Cs := [none, none, none, some [6], some [a, b], none, none, none]
def csN (a n : Nat) : Cs := [none, some [a, n], none, none, none, none, none, none]
theorem fr {v : Nat} (h : v < 3) : Free 32 (wV v) ∧ wV v ≠ [] := ⟨wV_free h 32 (Or.inl rfl), wV_ne h⟩
theorem frw {l : List UInt8} (h : (l.all fun x => x != 32) = true) (hn : l ≠ []) : Free 32 l ∧ l ≠ [] := ⟨fun x hx => by
  have := List.all_eq_true.1 h x hx
  simpa using this, hn⟩
theorem fr10 {l : List UInt8} (h : (l.all fun x => x != 10) = true) : Free 10 l := fun x hx => by
  have := List.all_eq_true.1 h x hx
  simpa using this
theorem frd (n : Nat) : Free 32 (dec n) ∧ dec n ≠ [] := ⟨dec_free n rfl, dec_ne n⟩
theorem proto_val (w : List UInt8) (v : Nat) (h : protoVal (ba w) = (0, [v])) : condVal 3 (ba w) = (0, [v]) := h
theorem tcp_val : condVal 3 (ba wTcp) = (0, [6]) := by decide
theorem udp_val : condVal 3 (ba wUdp) = (0, [17]) := by decide
theorem proto_plc : plc nws (ba wProto) = (3 : Nat) := by decide
theorem sport_plc : plc nws (ba wSport) = (4 : Nat) := by decide
theorem dport_plc : plc nws (ba wDport) = (5 : Nat) := by decide
theorem from_plc : plc nws (ba wFrom) = (1 : Nat) := by decide
theorem line_udp {b : Bk} {v : Nat} (hb : b.has = true) (hl : b.rs.length < 48) (hv : v < 3) : lineOf b ([wV v, wProto, wUdp].map ba) = (0, ⟨true, b.pol, b.rs ++ [⟨v, csU⟩]⟩) := by
  refine line_rule hb (rule_line (wV_plc hv) hl ?_ rfl)
  show conds [ba wProto, ba wUdp] none8 = _
  rw [conds_next 3 [17] proto_plc rfl udp_val]
  rfl
theorem line_tcp_dport {b : Bk} {v p : Nat} (hb : b.has = true) (hl : b.rs.length < 48) (hv : v < 3) (hp : p ≤ 65535) : lineOf b ([wV v, wProto, wTcp, wDport, dec p].map ba) = (0, ⟨true, b.pol, b.rs ++ [⟨v, csD p⟩]⟩) := by
  refine line_rule hb (rule_line (wV_plc hv) hl ?_ rfl)
  show conds [ba wProto, ba wTcp, ba wDport, ba (dec p)] none8 = _
  rw [conds_next 3 [6] proto_plc rfl tcp_val, conds_next 5 [p, p] dport_plc rfl (port_one p hp)]
  rfl
theorem line_dport_tcp {b : Bk} {v p : Nat} (hb : b.has = true) (hl : b.rs.length < 48) (hv : v < 3) (hp : p ≤ 65535) : lineOf b ([wV v, wDport, dec p, wProto, wTcp].map ba) = (0, ⟨true, b.pol, b.rs ++ [⟨v, csD p⟩]⟩) := by
  refine line_rule hb (rule_line (wV_plc hv) hl ?_ rfl)
  show conds [ba wDport, ba (dec p), ba wProto, ba wTcp] none8 = _
  rw [conds_next 5 [p, p] dport_plc rfl (port_one p hp), conds_next 3 [6] proto_plc rfl tcp_val]
  rfl
theorem line_tcp_sport {b : Bk} {v p q : Nat} (hb : b.has = true) (hl : b.rs.length < 48) (hv : v < 3) (hpq : p ≤ q) (hq : q ≤ 65535) : lineOf b ([wV v, wProto, wTcp, wSport, dec p ++ 45 :: dec q].map ba) = (0, ⟨true, b.pol, b.rs ++ [⟨v, csS p q⟩]⟩) := by
  refine line_rule hb (rule_line (wV_plc hv) hl ?_ rfl)
  show conds [ba wProto, ba wTcp, ba wSport, ba (dec p ++ 45 :: dec q)] none8 = _
  rw [conds_next 3 [6] proto_plc rfl tcp_val, conds_next 4 [p, q] sport_plc rfl (port_two p q hpq hq)]
  rfl
theorem line_sport_tcp {b : Bk} {v p q : Nat} (hb : b.has = true) (hl : b.rs.length < 48) (hv : v < 3) (hpq : p ≤ q) (hq : q ≤ 65535) : lineOf b ([wV v, wSport, dec p ++ 45 :: dec q, wProto, wTcp].map ba) = (0, ⟨true, b.pol, b.rs ++ [⟨v, csS p q⟩]⟩) := by
  refine line_rule hb (rule_line (wV_plc hv) hl ?_ rfl)
  show conds [ba wSport, ba (dec p ++ 45 :: dec q), ba wProto, ba wTcp] none8 = _
  rw [conds_next 4 [p, q] sport_plc rfl (port_two p q hpq hq), conds_next 3 [6] proto_plc rfl tcp_val]
  rfl
def netW (n k : Nat) : List UInt8 := dec n ++ 46 :: 48 :: 46 :: 48 :: 46 :: 48 :: 47 :: dec k
theorem line_from {b : Bk} {v n k : Nat} (hb : b.has = true) (hl : b.rs.length < 48) (hv : v < 3) (hn : n ≤ 255) (hk : k ≤ 32) (hz : (n * 16777216) % 2 ^ (32 - k) = 0) : lineOf b ([wV v, wFrom, netW n k].map ba) = (0, ⟨true, b.pol, b.rs ++ [⟨v, csN (n * 16777216) k⟩]⟩) := by
  refine line_rule hb (rule_line (wV_plc hv) hl ?_ rfl)
  show conds [ba wFrom, ba (netW n k)] none8 = _
  rw [conds_next (p := ba (netW n k)) 1 [n * 16777216, k] from_plc rfl (net_one n k hn hk hz)]
  rfl
theorem line_bare {b : Bk} {v : Nat} (hb : b.has = true) (hl : b.rs.length < 48) (hv : v < 3) : lineOf b ([wV v].map ba) = (0, ⟨true, b.pol, b.rs ++ [⟨v, none8⟩]⟩) :=
  line_rule hb (rule_line (wV_plc hv) hl rfl rfl)
/-- do the rules hold of a frame of TCP? -/
theorem holds_udp {d : ByteArray} {a b sp dp : Int} (h : TcpFrame d a b sp dp) (v : Nat) (m : Int × Int) : ruleB ⟨v, csU⟩ d m = false := by
  have e : ruleB ⟨v, csU⟩ d m = (holdsC 3 [17] d m && true) := rfl
  rw [e]
  unfold holdsC
  show (decide (24 ≤ d.size) && (numv d 23 1 == 17) && true) = false
  rw [h.proto]
  simp
theorem holds_tcp {d : ByteArray} {a b sp dp : Int} (h : TcpFrame d a b sp dp) (m : Int × Int) : holdsC 3 [6] d m = true := by
  unfold holdsC
  show (decide (24 ≤ d.size) && (numv d 23 1 == 6)) = true
  rw [h.proto, h.size]; rfl
theorem holds_dport {d : ByteArray} {a b sp dp : Int} (h : TcpFrame d a b sp dp) (v p : Nat) (m : Int × Int) : ruleB ⟨v, csD p⟩ d m = decide (dp = p) := by
  have e : ruleB ⟨v, csD p⟩ d m = (holdsC 3 [6] d m && (holdsC 5 [p, p] d m && true)) := rfl
  rw [e, holds_tcp h m]
  unfold holdsC
  show (true && (decide (38 ≤ d.size) && (decide ((p : Int) ≤ numv d 36 2) && !decide ((p : Int) + 1 ≤ numv d 36 2)) && true)) = _
  rw [h.dport, h.size]
  by_cases e : dp = p
  · subst e
    simp
    omega
  · simp [e]
    omega
theorem holds_sport {d : ByteArray} {a b sp dp : Int} (h : TcpFrame d a b sp dp) (v p q : Nat) (m : Int × Int) : ruleB ⟨v, csS p q⟩ d m = decide (p ≤ sp ∧ sp ≤ q) := by
  have e : ruleB ⟨v, csS p q⟩ d m = (holdsC 3 [6] d m && (holdsC 4 [p, q] d m && true)) := rfl
  rw [e, holds_tcp h m]
  unfold holdsC
  show (true && (decide (36 ≤ d.size) && (decide ((p : Int) ≤ numv d 34 2) && !decide ((q : Int) + 1 ≤ numv d 34 2)) && true)) = _
  rw [h.sport, h.size]
  by_cases e1 : (p : Int) ≤ sp
  · by_cases e2 : sp ≤ (q : Int)
    · simp [e1, e2]; omega
    · simp [e1, e2]; omega
  · simp [e1]
theorem holds_bare (v : Nat) (d : ByteArray) (m : Int × Int) : ruleB ⟨v, none8⟩ d m = true := rfl
theorem first_0 {x x1 y1 o : Nat} (hx : x < 3) (hx1 : x1 < 3) (hy1 : y1 < 3) (ho : o ≤ 65535) (l : List ByteArray) : linesOf ([glue 32 [wPolicy, wV x], glue 32 [wV x1, wProto, wUdp], glue 32 [wV y1, wProto, wTcp, wDport, dec o]].map ba ++ l) 0 bk0 = linesOf l 3 ⟨true, x, [⟨x1, csU⟩, ⟨y1, csD o⟩]⟩ := by
  show linesOf (_ :: _ :: _ :: l) 0 bk0 = _
  rw [lines_step (b' := ⟨true, x, []⟩) (by
      intro q hq
      simp only [List.mem_cons, List.not_mem_nil, or_false] at hq
      rcases hq with rfl | rfl
      · exact frw rfl (by decide)
      · exact fr hx) (line_pol hx)]
  rw [lines_step (b' := ⟨true, x, [⟨x1, csU⟩]⟩) (by
      intro q hq
      simp only [List.mem_cons, List.not_mem_nil, or_false] at hq
      rcases hq with rfl | rfl | rfl
      · exact fr hx1
      · exact frw rfl (by decide)
      · exact frw rfl (by decide)) (line_udp rfl (by simp) hx1)]
  rw [lines_step (b' := ⟨true, x, [⟨x1, csU⟩, ⟨y1, csD o⟩]⟩) (by
      intro q hq
      simp only [List.mem_cons, List.not_mem_nil, or_false] at hq
      rcases hq with rfl | rfl | rfl | rfl | rfl
      · exact fr hy1
      · exact frw rfl (by decide)
      · exact frw rfl (by decide)
      · exact frw rfl (by decide)
      · exact frd o) (line_tcp_dport rfl (by simp) hy1 ho)]
theorem dport_words {y p : Nat} (hy : y < 3) : ∀ q ∈ [wV y, wDport, dec p, wProto, wTcp], Free 32 q ∧ q ≠ [] := fun q hq => by
  simp only [List.mem_cons, List.not_mem_nil, or_false] at hq
  rcases hq with rfl | rfl | rfl | rfl | rfl
  · exact fr hy
  · exact frw rfl (by decide)
  · exact frd p
  · exact frw rfl (by decide)
  · exact frw rfl (by decide)
theorem bare_words {z : Nat} (hz : z < 3) : ∀ q ∈ [wV z], Free 32 q ∧ q ≠ [] := fun q hq => by
  rw [List.mem_singleton] at hq
  subst hq; exact fr hz
theorem fw10 {v : Nat} (h : v < 3) : Free 10 (wV v) := wV_free h 10 (Or.inr rfl)
theorem fd10 (n : Nat) : Free 10 (dec n) := dec_free n rfl
theorem wV_len {v : Nat} (h : v < 3) : (wV v).length ≤ 6 := by
  rcases wV_3 h with rfl | rfl | rfl <;> decide
/-- the lines of First's texts -/
def lnPol (x : Nat) : List UInt8 := glue 32 [wPolicy, wV x]
def lnUdp (v : Nat) : List UInt8 := glue 32 [wV v, wProto, wUdp]
def lnTd (v p : Nat) : List UInt8 := glue 32 [wV v, wProto, wTcp, wDport, dec p]
def lnDt (v p : Nat) : List UInt8 := glue 32 [wV v, wDport, dec p, wProto, wTcp]
theorem f10g {ls : List (List UInt8)} (h : ∀ p ∈ ls, Free 10 p) : Free 10 (glue 32 ls) := free_glue (by decide) ls h
theorem lnPol_f {x : Nat} (hx : x < 3) : Free 10 (lnPol x) := f10g (fun q hq => by
  simp only [List.mem_cons, List.not_mem_nil, or_false] at hq
  rcases hq with rfl | rfl
  · exact fr10 rfl
  · exact fw10 hx)
theorem lnUdp_f {x : Nat} (hx : x < 3) : Free 10 (lnUdp x) := f10g (fun q hq => by
  simp only [List.mem_cons, List.not_mem_nil, or_false] at hq
  rcases hq with rfl | rfl | rfl
  · exact fw10 hx
  · exact fr10 rfl
  · exact fr10 rfl)
theorem lnTd_f {x p : Nat} (hx : x < 3) : Free 10 (lnTd x p) := f10g (fun q hq => by
  simp only [List.mem_cons, List.not_mem_nil, or_false] at hq
  rcases hq with rfl | rfl | rfl | rfl | rfl
  · exact fw10 hx
  · exact fr10 rfl
  · exact fr10 rfl
  · exact fr10 rfl
  · exact fd10 p)
theorem lnDt_f {x p : Nat} (hx : x < 3) : Free 10 (lnDt x p) := f10g (fun q hq => by
  simp only [List.mem_cons, List.not_mem_nil, or_false] at hq
  rcases hq with rfl | rfl | rfl | rfl | rfl
  · exact fw10 hx
  · exact fr10 rfl
  · exact fd10 p
  · exact fr10 rfl
  · exact fr10 rfl)
theorem ln_len {x p : Nat} (hx : x < 3) (hp : p ≤ 65535) : (lnPol x).length ≤ 40 ∧ (lnUdp x).length ≤ 40 ∧ (lnTd x p).length ≤ 40 ∧ (lnDt x p).length ≤ 40 := by
  have h1 := wV_len hx
  have h2 := dec_len p (by omega)
  simp only [lnPol, lnUdp, lnTd, lnDt, glue, List.length_append, List.length_cons, wPolicy, wProto, wUdp, wTcp, wDport, List.length_nil]
  omega
theorem glue10_len : ∀ (ls : List (List UInt8)), (∀ p ∈ ls, p.length ≤ 100) → (glue 10 ls).length ≤ 101 * ls.length
  | [], _ => Nat.le_refl _
  | [p], h => by have := h p (List.mem_cons_self ..); simp [glue]; omega
  | p :: q :: r, h => by
    rw [glue_more, List.length_append, List.length_cons]
    have h1 := h p (List.mem_cons_self ..)
    have h2 := glue10_len (q :: r) (fun x hx => h x (List.mem_cons_of_mem _ hx))
    simp only [List.length_cons] at h2 ⊢
    omega
theorem all_cons {P : List UInt8 → Prop} {p : List UInt8} {r : List (List UInt8)} (h : P p) (g : ∀ q ∈ r, P q) : ∀ q ∈ p :: r, P q := fun q hq => by
  rcases List.mem_cons.1 hq with e | e
  · subst e; exact h
  · exact g q e
theorem all_nil {P : List UInt8 → Prop} : ∀ q ∈ ([] : List (List UInt8)), P q := fun q hq => by cases hq
def text0 (x x1 y1 o : Nat) : List UInt8 := glue 10 [lnPol x, lnUdp x1, lnTd y1 o, []]
def text1 (x x1 y1 o y p z : Nat) : List UInt8 := glue 10 [lnPol x, lnUdp x1, lnTd y1 o, lnDt y p, wV z, []]
def text2 (x x1 y1 o y p z : Nat) : List UInt8 := glue 10 [lnPol x, lnUdp x1, lnTd y1 o, wV z, lnDt y p, []]
structure Small (x x1 y1 o y p z : Nat) : Prop where
  x : x < 3
  x1 : x1 < 3
  y1 : y1 < 3
  o : o ≤ 65535
  y : y < 3
  p : p ≤ 65535
  z : z < 3
theorem text_len {x x1 y1 o y p z : Nat} (h : Small x x1 y1 o y p z) : (text0 x x1 y1 o).length ≤ 1000 ∧ (text1 x x1 y1 o y p z).length ≤ 1000 ∧ (text2 x x1 y1 o y p z).length ≤ 1000 := by
  have a1 := (ln_len h.x h.p).1
  have a2 := (ln_len h.x1 h.p).2.1
  have a3 := (ln_len h.y1 h.o).2.2.1
  have a4 := (ln_len h.y h.p).2.2.2
  have a5 := wV_len h.z
  refine ⟨?_, ?_, ?_⟩
  · refine Nat.le_trans (glue10_len _ ?_) (by decide : 101 * 4 ≤ 1000)
    exact all_cons (by omega) (all_cons (by omega) (all_cons (by omega) (all_cons (by simp) all_nil)))
  · refine Nat.le_trans (glue10_len _ ?_) (by decide : 101 * 6 ≤ 1000)
    exact all_cons (by omega) (all_cons (by omega) (all_cons (by omega) (all_cons (by omega) (all_cons (by omega) (all_cons (by simp) all_nil)))))
  · refine Nat.le_trans (glue10_len _ ?_) (by decide : 101 * 6 ≤ 1000)
    exact all_cons (by omega) (all_cons (by omega) (all_cons (by omega) (all_cons (by omega) (all_cons (by omega) (all_cons (by simp) all_nil)))))
theorem read0 {x x1 y1 o y p z : Nat} (h : Small x x1 y1 o y p z) : readT (ba (text0 x x1 y1 o)) = (0, 0, ⟨true, x, [⟨x1, csU⟩, ⟨y1, csD o⟩]⟩) := by
  refine read_lines _ _ ?_ (by have := (text_len h).1; unfold text0 at this; omega) ?_
  · exact all_cons (lnPol_f h.x) (all_cons (lnUdp_f h.x1) (all_cons (lnTd_f h.y1) (all_cons (free_nil _) all_nil)))
  · refine (first_0 h.x h.x1 h.y1 h.o [ba []]).trans ?_
    exact lines_blank 3 rfl
theorem read1 {x x1 y1 o y p z : Nat} (h : Small x x1 y1 o y p z) : readT (ba (text1 x x1 y1 o y p z)) = (0, 0, ⟨true, x, [⟨x1, csU⟩, ⟨y1, csD o⟩, ⟨y, csD p⟩, ⟨z, none8⟩]⟩) := by
  refine read_lines _ _ ?_ (by have := (text_len h).2.1; unfold text1 at this; omega) ?_
  · exact all_cons (lnPol_f h.x) (all_cons (lnUdp_f h.x1) (all_cons (lnTd_f h.y1) (all_cons (lnDt_f h.y) (all_cons (fw10 h.z) (all_cons (free_nil _) all_nil)))))
  · refine (first_0 h.x h.x1 h.y1 h.o [ba (lnDt y p), ba (wV z), ba []]).trans ?_
    refine (lines_step (p := wV y) (q := [wDport, dec p, wProto, wTcp]) (b' := ⟨true, x, [⟨x1, csU⟩, ⟨y1, csD o⟩, ⟨y, csD p⟩]⟩) (dport_words h.y) (line_dport_tcp rfl (by simp) h.y h.p)).trans ?_
    refine (lines_step (p := wV z) (q := []) (b' := ⟨true, x, [⟨x1, csU⟩, ⟨y1, csD o⟩, ⟨y, csD p⟩, ⟨z, none8⟩]⟩) (bare_words h.z) (line_bare rfl (by simp) h.z)).trans ?_
    exact lines_blank 5 rfl
theorem read2 {x x1 y1 o y p z : Nat} (h : Small x x1 y1 o y p z) : readT (ba (text2 x x1 y1 o y p z)) = (0, 0, ⟨true, x, [⟨x1, csU⟩, ⟨y1, csD o⟩, ⟨z, none8⟩, ⟨y, csD p⟩]⟩) := by
  refine read_lines _ _ ?_ (by have := (text_len h).2.2; unfold text2 at this; omega) ?_
  · exact all_cons (lnPol_f h.x) (all_cons (lnUdp_f h.x1) (all_cons (lnTd_f h.y1) (all_cons (fw10 h.z) (all_cons (lnDt_f h.y) (all_cons (free_nil _) all_nil)))))
  · refine (first_0 h.x h.x1 h.y1 h.o [ba (wV z), ba (lnDt y p), ba []]).trans ?_
    refine (lines_step (p := wV z) (q := []) (b' := ⟨true, x, [⟨x1, csU⟩, ⟨y1, csD o⟩, ⟨z, none8⟩]⟩) (bare_words h.z) (line_bare rfl (by simp) h.z)).trans ?_
    refine (lines_step (p := wV y) (q := [wDport, dec p, wProto, wTcp]) (b' := ⟨true, x, [⟨x1, csU⟩, ⟨y1, csD o⟩, ⟨z, none8⟩, ⟨y, csD p⟩]⟩) (dport_words h.y) (line_dport_tcp rfl (by simp) h.y h.p)).trans ?_
    exact lines_blank 5 rfl
/-- what the rules of First's texts say -/
theorem verd0 {d : ByteArray} {a b sp dp : Int} (h : TcpFrame d a b sp dp) (x x1 y1 o : Nat) (m : Int × Int) (ho : ¬ dp = o) : verdB x d m [⟨x1, csU⟩, ⟨y1, csD o⟩] = x := by
  simp only [verdB, holds_udp h, holds_dport h, decide_eq_true_eq, ho]
  simp
theorem verd1 {d : ByteArray} {a b sp dp : Int} (h : TcpFrame d a b sp dp) (x x1 y1 o y p z : Nat) (m : Int × Int) (ho : ¬ dp = o) (hp : dp = p) : verdB x d m [⟨x1, csU⟩, ⟨y1, csD o⟩, ⟨y, csD p⟩, ⟨z, none8⟩] = y := by
  have e1 : decide (dp = (o : Int)) = false := by simp [ho]
  have e2 : decide (dp = (p : Int)) = true := by simp [hp]
  simp only [verdB, holds_udp h, holds_dport h, e1, e2]
  simp
theorem verd2 {d : ByteArray} {a b sp dp : Int} (h : TcpFrame d a b sp dp) (x x1 y1 o y p z : Nat) (m : Int × Int) (ho : ¬ dp = o) : verdB x d m [⟨x1, csU⟩, ⟨y1, csD o⟩, ⟨z, none8⟩, ⟨y, csD p⟩] = z := by
  simp only [verdB, holds_udp h, holds_dport h, holds_bare, decide_eq_true_eq, ho]
  simp
end Go.Proofs.YtclpnafiiobfhabGreatDoor
namespace Go.Proofs.YtclpnafiiobfhabGreatDoor
open Go.RowKit
set_option linter.unusedVariables false
set_option linter.unusedSimpArgs false

theorem holds_net {d : ByteArray} {a b sp dp : Int} (h : TcpFrame d a b sp dp) (ha : 0 ≤ a ∧ a ≤ 4294967295) (v n k : Nat) (m : Int × Int) (hk : k ≤ 32) : ruleB ⟨v, csN n k⟩ d m = decide (a.toNat / 2 ^ (32 - k) * 2 ^ (32 - k) = n) := by
  have e : ruleB ⟨v, csN n k⟩ d m = (holdsC 1 [n, k] d m && true) := rfl
  rw [e]
  unfold holdsC
  show (decide (30 ≤ d.size) && ((((numv d 26 4).toNat &&& maskOf k : Nat) : Int) == (n : Int)) && true) = _
  rw [h.src, h.size, mask_and _ _ (by omega) hk]
  generalize a.toNat / 2 ^ (32 - k) * 2 ^ (32 - k) = y
  by_cases q : y = n
  · subst q; simp
  · have q' : ¬ (y : Int) = n := by omega
    simp [q, q']
/-- the lines of Parted's texts -/
def lnTs (v p q : Nat) : List UInt8 := glue 32 [wV v, wProto, wTcp, wSport, dec p ++ 45 :: dec q]
def lnSt (v p q : Nat) : List UInt8 := glue 32 [wV v, wSport, dec p ++ 45 :: dec q, wProto, wTcp]
def lnFr (v n k : Nat) : List UInt8 := glue 32 [wV v, wFrom, netW n k]
theorem f10r (p q : Nat) : Free 10 (dec p ++ 45 :: dec q) := free_append (fd10 p) (free_cons (by decide) (fd10 q))
theorem f32r (p q : Nat) : Free 32 (dec p ++ 45 :: dec q) ∧ dec p ++ 45 :: dec q ≠ [] := ⟨free_append (dec_free p rfl) (free_cons (by decide) (dec_free q rfl)), by simp⟩
theorem f10n (n k : Nat) : Free 10 (netW n k) := free_append (fd10 n) (free_cons (by decide) (free_cons (by decide) (free_cons (by decide) (free_cons (by decide) (free_cons (by decide) (free_cons (by decide) (free_cons (by decide) (fd10 k))))))))
theorem f32n (n k : Nat) : Free 32 (netW n k) ∧ netW n k ≠ [] := ⟨free_append (dec_free n rfl) (free_cons (by decide) (free_cons (by decide) (free_cons (by decide) (free_cons (by decide) (free_cons (by decide) (free_cons (by decide) (free_cons (by decide) (dec_free k rfl)))))))), by simp [netW]⟩
theorem lnTs_f (p q : Nat) : Free 10 (lnTs 1 p q) := f10g (all_cons (fw10 (by decide)) (all_cons (fr10 rfl) (all_cons (fr10 rfl) (all_cons (fr10 rfl) (all_cons (f10r p q) all_nil)))))
theorem lnSt_f (p q : Nat) : Free 10 (lnSt 1 p q) := f10g (all_cons (fw10 (by decide)) (all_cons (fr10 rfl) (all_cons (f10r p q) (all_cons (fr10 rfl) (all_cons (fr10 rfl) all_nil)))))
theorem lnFr_f (n k : Nat) : Free 10 (lnFr 1 n k) := f10g (all_cons (fw10 (by decide)) (all_cons (fr10 rfl) (all_cons (f10n n k) all_nil)))
theorem ts_words (p q : Nat) : ∀ x ∈ [wV 1, wProto, wTcp, wSport, dec p ++ 45 :: dec q], Free 32 x ∧ x ≠ [] :=
  all_cons (P := fun x => Free 32 x ∧ x ≠ []) (fr (by decide)) (all_cons (frw rfl (by decide)) (all_cons (frw rfl (by decide)) (all_cons (frw rfl (by decide)) (all_cons (f32r p q) all_nil))))
theorem st_words (p q : Nat) : ∀ x ∈ [wV 1, wSport, dec p ++ 45 :: dec q, wProto, wTcp], Free 32 x ∧ x ≠ [] :=
  all_cons (P := fun x => Free 32 x ∧ x ≠ []) (fr (by decide)) (all_cons (frw rfl (by decide)) (all_cons (f32r p q) (all_cons (frw rfl (by decide)) (all_cons (frw rfl (by decide)) all_nil))))
theorem fr_words (n k : Nat) : ∀ x ∈ [wV 1, wFrom, netW n k], Free 32 x ∧ x ≠ [] :=
  all_cons (P := fun x => Free 32 x ∧ x ≠ []) (fr (by decide)) (all_cons (frw rfl (by decide)) (all_cons (f32n n k) all_nil))
theorem lnp_len {p q : Nat} (hp : p < 100000) (hq : q < 100000) : (lnTs 1 p q).length ≤ 40 ∧ (lnSt 1 p q).length ≤ 40 ∧ (lnFr 1 p q).length ≤ 40 := by
  have h1 := wV_len (v := 1) (by decide)
  have h2 := dec_len p hp
  have h3 := dec_len q hq
  simp only [lnTs, lnSt, lnFr, netW, glue, List.length_append, List.length_cons, wFrom, wProto, wTcp, wSport, List.length_nil]
  omega
def textW (lo hi : Nat) : List UInt8 := glue 10 [lnPol 0, lnTs 1 lo hi]
def textP (lo mid mi hi : Nat) : List UInt8 := glue 10 [lnPol 0, lnTs 1 lo mid, lnSt 1 mi hi]
def textN (n : Nat) : List UInt8 := glue 10 [lnPol 0, lnFr 1 n 7]
def textH (n m : Nat) : List UInt8 := glue 10 [lnPol 0, lnFr 1 n 8, lnFr 1 m 8]
theorem pol_step (l : List ByteArray) : linesOf (ba (lnPol 0) :: l) 0 bk0 = linesOf l 1 ⟨true, 0, []⟩ :=
  lines_step (p := wPolicy) (q := [wV 0]) (all_cons (P := fun x => Free 32 x ∧ x ≠ []) (frw rfl (by decide)) (all_cons (fr (by decide)) all_nil)) (line_pol (by decide))
theorem two_len {p q : List UInt8} (hp : p.length ≤ 40) (hq : q.length ≤ 40) : (glue 10 [p, q]).length ≤ 2000 :=
  Nat.le_trans (glue10_len _ (all_cons (by omega) (all_cons (by omega) all_nil))) (by decide : 101 * 2 ≤ 2000)
theorem three_len {p q r : List UInt8} (hp : p.length ≤ 40) (hq : q.length ≤ 40) (hr : r.length ≤ 40) : (glue 10 [p, q, r]).length ≤ 2000 :=
  Nat.le_trans (glue10_len _ (all_cons (by omega) (all_cons (by omega) (all_cons (by omega) all_nil)))) (by decide : 101 * 3 ≤ 2000)
theorem pol_len : (lnPol 0).length ≤ 40 := (ln_len (x := 0) (p := 0) (by decide) (by decide)).1
theorem lenW {lo hi : Nat} (h1 : lo ≤ 65535) (h2 : hi ≤ 65535) : (textW lo hi).length ≤ 2000 := two_len pol_len (lnp_len (by omega) (by omega)).1
theorem lenP {lo mid mi hi : Nat} (h1 : lo ≤ 65535) (h2 : mid ≤ 65535) (h3 : mi ≤ 65535) (h4 : hi ≤ 65535) : (textP lo mid mi hi).length ≤ 2000 := three_len pol_len (lnp_len (by omega) (by omega)).1 (lnp_len (by omega) (by omega)).2.1
theorem lenN {n : Nat} (h1 : n ≤ 255) : (textN n).length ≤ 2000 := two_len pol_len (lnp_len (by omega) (by omega)).2.2
theorem lenH {n m : Nat} (h1 : n ≤ 255) (h2 : m ≤ 255) : (textH n m).length ≤ 2000 := three_len pol_len (lnp_len (by omega) (by omega)).2.2 (lnp_len (by omega) (by omega)).2.2
theorem readW {lo hi : Nat} (h : lo ≤ hi) (h2 : hi ≤ 65535) : readT (ba (textW lo hi)) = (0, 0, ⟨true, 0, [⟨1, csS lo hi⟩]⟩) := by
  refine read_lines _ _ (all_cons (lnPol_f (by decide)) (all_cons (lnTs_f lo hi) all_nil)) (lenW (by omega) h2) ?_
  refine (pol_step [ba (lnTs 1 lo hi)]).trans ?_
  refine (lines_step (p := wV 1) (q := [wProto, wTcp, wSport, dec lo ++ 45 :: dec hi]) (ts_words lo hi) (line_tcp_sport (b := ⟨true, 0, []⟩) rfl (by simp) (by decide) h h2)).trans ?_
  exact lines_end _ rfl
theorem readP {lo mid mi hi : Nat} (h : lo ≤ mid) (h2 : mid ≤ 65535) (h3 : mi ≤ hi) (h4 : hi ≤ 65535) : readT (ba (textP lo mid mi hi)) = (0, 0, ⟨true, 0, [⟨1, csS lo mid⟩, ⟨1, csS mi hi⟩]⟩) := by
  refine read_lines _ _ (all_cons (lnPol_f (by decide)) (all_cons (lnTs_f lo mid) (all_cons (lnSt_f mi hi) all_nil))) (lenP (by omega) h2 (by omega) h4) ?_
  refine (pol_step [ba (lnTs 1 lo mid), ba (lnSt 1 mi hi)]).trans ?_
  refine (lines_step (p := wV 1) (q := [wProto, wTcp, wSport, dec lo ++ 45 :: dec mid]) (ts_words lo mid) (line_tcp_sport (b := ⟨true, 0, []⟩) rfl (by simp) (by decide) h h2)).trans ?_
  refine (lines_step (p := wV 1) (q := [wSport, dec mi ++ 45 :: dec hi, wProto, wTcp]) (st_words mi hi) (line_sport_tcp (b := ⟨true, 0, [⟨1, csS lo mid⟩]⟩) rfl (by simp) (by decide) h3 h4)).trans ?_
  exact lines_end _ rfl
theorem readN {n : Nat} (h : n ≤ 255) (he : n % 2 = 0) : readT (ba (textN n)) = (0, 0, ⟨true, 0, [⟨1, csN (n * 16777216) 7⟩]⟩) := by
  refine read_lines _ _ (all_cons (lnPol_f (by decide)) (all_cons (lnFr_f n 7) all_nil)) (lenN h) ?_
  refine (pol_step [ba (lnFr 1 n 7)]).trans ?_
  refine (lines_step (p := wV 1) (q := [wFrom, netW n 7]) (fr_words n 7) (line_from (b := ⟨true, 0, []⟩) rfl (by simp) (by decide) h (by decide) (show n * 16777216 % 33554432 = 0 by omega))).trans ?_
  exact lines_end _ rfl
theorem readH {n m : Nat} (h : n ≤ 255) (h2 : m ≤ 255) : readT (ba (textH n m)) = (0, 0, ⟨true, 0, [⟨1, csN (n * 16777216) 8⟩, ⟨1, csN (m * 16777216) 8⟩]⟩) := by
  refine read_lines _ _ (all_cons (lnPol_f (by decide)) (all_cons (lnFr_f n 8) (all_cons (lnFr_f m 8) all_nil))) (lenH h h2) ?_
  refine (pol_step [ba (lnFr 1 n 8), ba (lnFr 1 m 8)]).trans ?_
  refine (lines_step (p := wV 1) (q := [wFrom, netW n 8]) (fr_words n 8) (line_from (b := ⟨true, 0, []⟩) rfl (by simp) (by decide) h (by decide) (show n * 16777216 % 16777216 = 0 by omega))).trans ?_
  refine (lines_step (p := wV 1) (q := [wFrom, netW m 8]) (fr_words m 8) (line_from (b := ⟨true, 0, [⟨1, csN (n * 16777216) 8⟩]⟩) rfl (by simp) (by decide) h2 (by decide) (show m * 16777216 % 16777216 = 0 by omega))).trans ?_
  exact lines_end _ rfl
/-- what the rules of Parted's texts say -/
theorem verdW {d : ByteArray} {a b sp dp : Int} (h : TcpFrame d a b sp dp) (lo hi : Nat) (m : Int × Int) : verdB 0 d m [⟨1, csS lo hi⟩] = if (lo : Int) ≤ sp ∧ sp ≤ hi then 1 else 0 := by
  simp only [verdB, holds_sport h, decide_eq_true_eq]
theorem verdP {d : ByteArray} {a b sp dp : Int} (h : TcpFrame d a b sp dp) (lo mid hi : Nat) (m : Int × Int) (h1 : lo ≤ mid) (h2 : mid + 1 ≤ hi) : verdB 0 d m [⟨1, csS lo mid⟩, ⟨1, csS (mid + 1) hi⟩] = if (lo : Int) ≤ sp ∧ sp ≤ hi then 1 else 0 := by
  simp only [verdB, holds_sport h, decide_eq_true_eq]
  by_cases q : (lo : Int) ≤ sp ∧ sp ≤ hi
  · rw [if_pos q]
    by_cases q1 : (lo : Int) ≤ sp ∧ sp ≤ mid
    · rw [if_pos q1]
    · rw [if_neg q1, if_pos (by omega)]
  · rw [if_neg q, if_neg (by omega), if_neg (by omega)]
theorem verdN {d : ByteArray} {a b sp dp : Int} (h : TcpFrame d a b sp dp) (ha : 0 ≤ a ∧ a ≤ 4294967295) (n : Nat) (m : Int × Int) (hn : n = a.toNat / 33554432 * 2) : verdB 0 d m [⟨1, csN (n * 16777216) 7⟩] = 1 := by
  simp only [verdB, holds_net h ha 1 _ 7 m (by decide), decide_eq_true_eq]
  rw [if_pos (show a.toNat / 33554432 * 33554432 = n * 16777216 by omega)]
theorem verdH {d : ByteArray} {a b sp dp : Int} (h : TcpFrame d a b sp dp) (ha : 0 ≤ a ∧ a ≤ 4294967295) (n : Nat) (m : Int × Int) (hn : n = a.toNat / 33554432 * 2) : verdB 0 d m [⟨1, csN (n * 16777216) 8⟩, ⟨1, csN ((n + 1) * 16777216) 8⟩] = 1 := by
  simp only [verdB, holds_net h ha 1 _ 8 m (by decide), decide_eq_true_eq]
  by_cases q : a.toNat / 2 ^ (32 - 8) * 2 ^ (32 - 8) = n * 16777216
  · rw [if_pos q]
  · rw [if_neg q, if_pos]
    have q' : ¬ a.toNat / 16777216 * 16777216 = n * 16777216 := q
    show a.toNat / 16777216 * 16777216 = (n + 1) * 16777216
    omega
end Go.Proofs.YtclpnafiiobfhabGreatDoor
namespace Go.Proofs.YtclpnafiiobfhabGreatDoor
open Go.RowKit
set_option linter.unusedVariables false
set_option linter.unusedSimpArgs false

theorem ba_append (a b : List UInt8) : ba a ++ ba b = ba (a ++ b) := by
  apply bl_inj
  rw [bl_ba]
  unfold bl
  rw [ByteArray.data_append]
  simp [ba]
theorem conv_one (W : World) (x : Int) (hx : 0 ≤ x ∧ x ≤ 255) (cap : Nat) : (convert 30 9 (.slice (some ⟨W.heap.size, 0, none⟩) 1 cap)).run Tryz.prog (W.alloc (.cells #[.int .u8 x] 5)) = .ok (.string (ba [UInt8.ofNat x.toNat])) (W.alloc (.cells #[.int .u8 x] 5)) := by
  have := Lib.run_convert_whole (P := Tryz.prog) (W.alloc (.cells #[.int .u8 x] 5)) 30 5 9 Tryz.underlying30 Tryz.underlying5 Tryz.underlying9 W.heap.size 0 (ba [UInt8.ofNat x.toNat]) (fun i hi => by
    have h0 : i = 0 := by rw [ba_size] at hi; simp at hi; exact hi
    subst h0
    rw [World.cell?_alloc_at _ _ _ _ rfl, nth_at _ _ hi]
    have : nth (ba [UInt8.ofNat x.toNat]) 0 = x := by
      show (((UInt8.ofNat x.toNat).toNat : Nat) : Int) = x
      rw [UInt8.toNat_ofNat']; omega
    rw [this]; rfl) cap
  exact this
theorem digit_of (v : Int) (h : 0 ≤ v ∧ v ≤ 9) : UInt8.ofNat (48 + v).toNat = UInt8.ofNat (48 + v.toNat) := by
  congr 1; omega
set_option maxHeartbeats 1600000 in
theorem knum_any : ∀ (k : Nat) (v : Nat), v < k → v < 100000 → ∀ w : World, Calls Tryz.prog 13 #[.int .i64 (v : Int)] w fun e w' => e = .returned (.string (ba (dec v))) ∧ Below w.heap.size w w'
  | 0, v, h, _, w => by omega
  | k + 1, v, h, hm, w => by
    have hcv := conv_one
    by_cases h10 : v < 10
    · have h1 : (v : Int) < 10 := by omega
      have hd := dec_small h10
      have e1 : ba (dec v) = ba [UInt8.ofNat (48 + (v : Int)).toNat] := by rw [hd, digit_of _ (by omega)]; rfl
      rw [e1]
      clear hd e1
      have hcv' := fun W => conv_one W (48 + (v : Int)) (by omega) 1
      clear hcv
      go_enter Tryz.func13, Tryz.ntmps13
      go_wp2_with fail
      go_ret
      exact ⟨rfl, (Below.refl _ _).alloc (Nat.le_refl _) _⟩
    · have h1 : (10 : Int) ≤ (v : Int) := by omega
      have HR : Hid (∀ w : World, Calls Tryz.prog 13 #[.int .i64 ((v / 10 : Nat) : Int)] w fun e w' => e = .returned (.string (ba (dec (v / 10)))) ∧ Below w.heap.size w w') := knum_any k (v / 10) (by omega) (by omega)
      have hd := dec_big h10
      have e1 : ba (dec v) = ba (dec (v / 10)) ++ ba [UInt8.ofNat (48 + (v : Int) % 10).toNat] := by
        rw [hd, ba_append, digit_of _ (by omega)]
        congr 3
      have hcv' := fun W => conv_one W (48 + (v : Int) % 10) (by omega) 1
      have z1 : (ba (dec (v / 10))).size ≤ 1000 := by
        rw [ba_size]; have := dec_len (v / 10) (by omega); omega
      have z2 : (ba [UInt8.ofNat (48 + (v : Int) % 10).toNat]).size = 1 := by rw [ba_size]; rfl
      rw [e1]
      generalize ba [UInt8.ofNat (48 + (v : Int) % 10).toNat] = S at hcv' z2 ⊢
      generalize ba (dec (v / 10)) = T at HR z1 ⊢
      clear hd e1 hcv
      go_enter Tryz.func13, Tryz.ntmps13
      go_wp2_with (go_at_call 13; refine (HR.out _).mono ?_; rintro e W1 ⟨rfl, hb1⟩)
      go_ret
      exact ⟨rfl, hb1.alloc hb1.size _⟩
end Go.Proofs.YtclpnafiiobfhabGreatDoor
namespace Go.Proofs.YtclpnafiiobfhabGreatDoor
open Go.RowKit
set_option linter.unusedVariables false
set_option linter.unusedSimpArgs false

set_option maxHeartbeats 3200000 in
/-- what a text's code says of a frame -/
theorem verdict_any (s d : ByteArray) (b : Bk) (n : Nat) (fb fc : Nat) (i t : Int) (w : World) (hm : MaxL w) (hL : Laid w) (hs : s.size ≤ 2000) (hr : readT s = (0, n, b)) (hd : Row w fb 0 d) (hfb : fb < w.heap.size) (h34 : 34 ≤ d.size) (hdz : d.size ≤ 2000) (hfc : d.size ≤ fc) (hfm : fc ≤ maxLen) (hi : 0 ≤ i ∧ i ≤ 255) (ht : 0 ≤ t ∧ t ≤ 2) :
    Calls Tryz.prog 11 #[.string s, .slice (some ⟨fb, 0, none⟩) d.size fc, .int .i64 i, .int .i64 t] w fun e w' => e = .returned (.tuple #[.int .u8 (verdB b.pol d (i, t) b.rs : Int), .bool true]) ∧ Below w.heap.size w w' := by
  have hml : s.size ≤ maxLen := by unfold maxLen; omega
  have HC : Hid (Calls _ _ _ w _) := plCompile_any s w hm hL hml
  have hgb : GoodB b := by have := read_good s; rw [hr] at this; exact this
  obtain ⟨z, hG⟩ := book_goes b hgb d (i, t) (by omega) h34 (by dsimp only; omega) (by dsimp only; omega)
  have hF := book_fine _ b hgb (book_code b hgb)
  have hR : Ran (codeS (bookL b)) d (i, t) (verdB b.pol d (i, t) b.rs : Int) z 0 := .inr ⟨_, hF.toFormed, hG⟩
  have hcz : codeT s = codeS (bookL b) := by unfold codeT; rw [hr]
  rw [hcz, hr] at HC
  dsimp only at HC
  have HE : Hid (∀ (g c : Nat) (W : World), Below w.heap.size w W → W.ownsRow w.heap.size 5 1 (.slice (some ⟨g, 0, none⟩) (codeS (bookL b)).size c) (codeS (bookL b)).size (codeB (bookL b)) → Calls Tryz.prog 25 #[.slice (some ⟨g, 0, none⟩) (codeS (bookL b)).size c, .slice (some ⟨fb, 0, none⟩) d.size fc, .agg #[.int .u32 i, .int .u32 t]] W fun e w' => e = .returned (.tuple #[.int .u8 (verdB b.pol d (i, t) b.rs : Int), .int .i64 z, .int .i64 0]) ∧ Below W.heap.size W w') := fun g c W hW hO => by
    obtain ⟨p, c', e, hp⟩ := own_form hO
    have hpos : 0 < (codeS (bookL b)).size := by rw [hF.size]; have := hF.pos; omega
    obtain ⟨g', e', hg, hlt, hn, hcm⟩ := hp hpos
    subst e'
    injection e with e1 e2 e3
    injection e1 with e1
    injection e1 with e1
    subst e1 e3
    exact plExec_any (codeS (bookL b)) d (i, t) _ z 0 g 0 c fb 0 fc W (hL.below hW) hR hn hcm hlt (own_code hO (book_bd b hgb) rfl) (fun j hj => (hW.cell (p := ⟨fb, 0 + j, none⟩) hfb).trans (hd j hj)) (Nat.lt_of_lt_of_le hfb hW.size) hfc hfm (by omega) (by dsimp only; omega) (by dsimp only; omega)
  generalize (codeS (bookL b)).size = Z at HC HE
  obtain ⟨V, hV⟩ : ∃ V : Int, (verdB b.pol d (i, t) b.rs : Int) = V := ⟨_, rfl⟩
  rw [hV] at HE
  rw [hV]
  have wi : i % 4294967296 = i := by omega
  have wt : t % 4294967296 = t := by omega
  clear hr hm hL hml hgb hG hF hR hcz hd hV
  go_enter Tryz.func11, Tryz.ntmps11
  go_wp2_with (first | (go_at_call 24; refine HC.out.mono ?_; rintro e W1 ⟨h1, h2, hb1⟩; obtain ⟨g, c, rfl, hO⟩ := h2 rfl; clear h1 h2; have HE1 : Hid (Calls _ _ _ W1 _) := HE.out g c W1 hb1 hO) | (go_at_call 25; refine HE1.out.mono ?_; rintro e W2 ⟨rfl, hb2⟩))
  go_ret2
  exact ⟨rfl, hb1.trans (hb2.mono hb1.size)⟩
end Go.Proofs.YtclpnafiiobfhabGreatDoor
namespace Go.Proofs.YtclpnafiiobfhabGreatDoor
open Go.RowKit
set_option linter.unusedVariables false
set_option linter.unusedSimpArgs false

theorem hdr_cell {w1 w2 : World} {cs : Array Value} {t : TypeId} (hb : Below (w1.alloc (.cells cs t)).heap.size (w1.alloc (.cells cs t)) w2) (i : Nat) (v : Value) (h : cs[i]? = some v) : w2.cell? ⟨w1.heap.size, i, none⟩ = some v ∧ w1.heap.size + 1 ≤ w2.heap.size := by
  have hz := hb.size
  have e : (w1.alloc (.cells cs t)).heap.size = w1.heap.size + 1 := by simp
  rw [e] at hz hb
  refine ⟨(hb.cell (p := ⟨w1.heap.size, i, none⟩) (by show w1.heap.size < w1.heap.size + 1; omega)).trans ?_, hz⟩
  rw [World.cell?_alloc_at _ _ _ _ rfl, h]
/-- what a text's code says of a frame of TCP that was built -/
theorem verdict_tcp (s : ByteArray) (b : Bk) (n : Nat) (FL : List Int) (g : Nat) (i t : Int) {a0 b0 sp dp : Int} (w W : World) (hm : MaxL w) (hL : Laid w) (hW : Below w.heap.size w W) (hs : s.size ≤ 2000) (hr : readT s = (0, n, b)) (hB : Buf w g FL) (hY : Byt FL) (hF : TcpFrame (ofL FL) a0 b0 sp dp) (hi : 0 ≤ i ∧ i ≤ 255) (ht : 0 ≤ t ∧ t ≤ 2) :
    Calls Tryz.prog 11 #[.string s, .slice (some ⟨g, 0, none⟩) 54 54, .int .i64 i, .int .i64 t] W fun e w' => e = .returned (.tuple #[.int .u8 (verdB b.pol (ofL FL) (i, t) b.rs : Int), .bool true]) ∧ Below w.heap.size w w' := by
  have hB' := hB.below hW hB.lt
  have h := verdict_any s (ofL FL) b n g 54 i t W (hm.below hW) (hL.below hW) hs hr (hB'.row hY) hB'.lt (by rw [hF.size]; decide) (by rw [hF.size]; decide) (by rw [hF.size]; decide) (by decide) hi ht
  rw [hF.size] at h
  exact h.mono fun e w' ⟨h1, h2⟩ => ⟨h1, hW.trans (h2.mono hW.size)⟩
theorem num_hid (o : Nat) (h : o < 65536) (W : World) : ∀ W' : World, Below W.heap.size W W' → Calls Tryz.prog 13 #[.int .i64 (o : Int)] W' fun e w' => e = .returned (.string (ba (dec o))) ∧ Below W.heap.size W w' := fun W' hW =>
  (knum_any (o + 1) o (by omega) (by omega) W').mono fun e w' ⟨h1, h2⟩ => ⟨h1, hW.trans (h2.mono hW.size)⟩
theorem dec_size (o : Nat) (h : o < 65536) : (ba (dec o)).size ≤ 5 := by
  rw [ba_size]; exact dec_len o (by omega)
end Go.Proofs.YtclpnafiiobfhabGreatDoor

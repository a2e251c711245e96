import Derived.Test.YtclpnafiiobfhabGreatDoorRText
import Derived.Test.YtclpnafiiobfhabGreatDoorKHead
import Derived.Test.YtclpnafiiobfhabGreatDoorItemAll
namespace Go.Proofs.YtclpnafiiobfhabGreatDoor
open Go.RowKit
set_option linter.unusedVariables false
set_option linter.unusedSimpArgs false

def csU : Cs := [none, none, none, some [17], none, none, none, none]
def csD (p : Nat) : Cs := [none, none, none, some [6], none, some [p, p], none, none]
def csS (a b : Nat) : Cs := [none, none, none, some [6], some [a, b], none, none, none]
def csN (a n : Nat) : Cs := [none, some [a, n], none, none, none, none, none, none]
theorem fr {v : Nat} (h : v < 3) : Free 32 (wV v) ∧ wV v ≠ [] := ⟨wV_free h 32 (Or.inl rfl), wV_ne h⟩
theorem frw {l : List UInt8} (h : (l.all fun x => x != 32) = true) (hn : l ≠ []) : Free 32 l ∧ l ≠ [] := ⟨fun x hx => by
  have := List.all_eq_true.1 h x hx
  simpa using this, hn⟩
theorem fr10 {l : List UInt8} (h : (l.all fun x => x != 10) = true) : Free 10 l := fun x hx => by
  have := List.all_eq_true.1 h x hx
  simpa using this
theorem frd (n : Nat) : Free 32 (dec n) ∧ dec n ≠ [] := ⟨dec_free n rfl, dec_ne n⟩
theorem proto_val (w : List UInt8) (v : Nat) (h : protoVal (ba w) = (0, [v])) : condVal 3 (ba w) = (0, [v]) := h
theorem tcp_val : condVal 3 (ba wTcp) = (0, [6]) := by decide
theorem udp_val : condVal 3 (ba wUdp) = (0, [17]) := by decide
theorem proto_plc : plc nws (ba wProto) = (3 : Nat) := by decide
theorem sport_plc : plc nws (ba wSport) = (4 : Nat) := by decide
theorem dport_plc : plc nws (ba wDport) = (5 : Nat) := by decide
theorem from_plc : plc nws (ba wFrom) = (1 : Nat) := by decide
theorem line_udp {b : Bk} {v : Nat} (hb : b.has = true) (hl : b.rs.length < 48) (hv : v < 3) : lineOf b ([wV v, wProto, wUdp].map ba) = (0, ⟨true, b.pol, b.rs ++ [⟨v, csU⟩]⟩) := by
  refine line_rule hb (rule_line (wV_plc hv) hl ?_ rfl)
  show conds [ba wProto, ba wUdp] none8 = _
  rw [conds_next 3 [17] proto_plc rfl udp_val]
  rfl
theorem line_tcp_dport {b : Bk} {v p : Nat} (hb : b.has = true) (hl : b.rs.length < 48) (hv : v < 3) (hp : p ≤ 65535) : lineOf b ([wV v, wProto, wTcp, wDport, dec p].map ba) = (0, ⟨true, b.pol, b.rs ++ [⟨v, csD p⟩]⟩) := by
  refine line_rule hb (rule_line (wV_plc hv) hl ?_ rfl)
  show conds [ba wProto, ba wTcp, ba wDport, ba (dec p)] none8 = _
  rw [conds_next 3 [6] proto_plc rfl tcp_val, conds_next 5 [p, p] dport_plc rfl (port_one p hp)]
  rfl
theorem line_dport_tcp {b : Bk} {v p : Nat} (hb : b.has = true) (hl : b.rs.length < 48) (hv : v < 3) (hp : p ≤ 65535) : lineOf b ([wV v, wDport, dec p, wProto, wTcp].map ba) = (0, ⟨true, b.pol, b.rs ++ [⟨v, csD p⟩]⟩) := by
  refine line_rule hb (rule_line (wV_plc hv) hl ?_ rfl)
  show conds [ba wDport, ba (dec p), ba wProto, ba wTcp] none8 = _
  rw [conds_next 5 [p, p] dport_plc rfl (port_one p hp), conds_next 3 [6] proto_plc rfl tcp_val]
  rfl
theorem line_tcp_sport {b : Bk} {v p q : Nat} (hb : b.has = true) (hl : b.rs.length < 48) (hv : v < 3) (hpq : p ≤ q) (hq : q ≤ 65535) : lineOf b ([wV v, wProto, wTcp, wSport, dec p ++ 45 :: dec q].map ba) = (0, ⟨true, b.pol, b.rs ++ [⟨v, csS p q⟩]⟩) := by
  refine line_rule hb (rule_line (wV_plc hv) hl ?_ rfl)
  show conds [ba wProto, ba wTcp, ba wSport, ba (dec p ++ 45 :: dec q)] none8 = _
  rw [conds_next 3 [6] proto_plc rfl tcp_val, conds_next 4 [p, q] sport_plc rfl (port_two p q hpq hq)]
  rfl
theorem line_sport_tcp {b : Bk} {v p q : Nat} (hb : b.has = true) (hl : b.rs.length < 48) (hv : v < 3) (hpq : p ≤ q) (hq : q ≤ 65535) : lineOf b ([wV v, wSport, dec p ++ 45 :: dec q, wProto, wTcp].map ba) = (0, ⟨true, b.pol, b.rs ++ [⟨v, csS p q⟩]⟩) := by
  refine line_rule hb (rule_line (wV_plc hv) hl ?_ rfl)
  show conds [ba wSport, ba (dec p ++ 45 :: dec q), ba wProto, ba wTcp] none8 = _
  rw [conds_next 4 [p, q] sport_plc rfl (port_two p q hpq hq), conds_next 3 [6] proto_plc rfl tcp_val]
  rfl
def netW (n k : Nat) : List UInt8 := dec n ++ 46 :: 48 :: 46 :: 48 :: 46 :: 48 :: 47 :: dec k
theorem line_from {b : Bk} {v n k : Nat} (hb : b.has = true) (hl : b.rs.length < 48) (hv : v < 3) (hn : n ≤ 255) (hk : k ≤ 32) (hz : (n * 16777216) % 2 ^ (32 - k) = 0) : lineOf b ([wV v, wFrom, netW n k].map ba) = (0, ⟨true, b.pol, b.rs ++ [⟨v, csN (n * 16777216) k⟩]⟩) := by
  refine line_rule hb (rule_line (wV_plc hv) hl ?_ rfl)
  show conds [ba wFrom, ba (netW n k)] none8 = _
  rw [conds_next (p := ba (netW n k)) 1 [n * 16777216, k] from_plc rfl (net_one n k hn hk hz)]
  rfl
theorem line_bare {b : Bk} {v : Nat} (hb : b.has = true) (hl : b.rs.length < 48) (hv : v < 3) : lineOf b ([wV v].map ba) = (0, ⟨true, b.pol, b.rs ++ [⟨v, none8⟩]⟩) :=
  line_rule hb (rule_line (wV_plc hv) hl rfl rfl)
/-- do the rules hold of a frame of TCP? -/
theorem holds_udp {d : ByteArray} {a b sp dp : Int} (h : TcpFrame d a b sp dp) (v : Nat) (m : Int × Int) : ruleB ⟨v, csU⟩ d m = false := by
  have e : ruleB ⟨v, csU⟩ d m = (holdsC 3 [17] d m && true) := rfl
  rw [e]
  unfold holdsC
  show (decide (24 ≤ d.size) && (numv d 23 1 == 17) && true) = false
  rw [h.proto]
  simp
theorem holds_tcp {d : ByteArray} {a b sp dp : Int} (h : TcpFrame d a b sp dp) (m : Int × Int) : holdsC 3 [6] d m = true := by
  unfold holdsC
  show (decide (24 ≤ d.size) && (numv d 23 1 == 6)) = true
  rw [h.proto, h.size]; rfl
theorem holds_dport {d : ByteArray} {a b sp dp : Int} (h : TcpFrame d a b sp dp) (v p : Nat) (m : Int × Int) : ruleB ⟨v, csD p⟩ d m = decide (dp = p) := by
  have e : ruleB ⟨v, csD p⟩ d m = (holdsC 3 [6] d m && (holdsC 5 [p, p] d m && true)) := rfl
  rw [e, holds_tcp h m]
  unfold holdsC
  show (true && (decide (38 ≤ d.size) && (decide ((p : Int) ≤ numv d 36 2) && !decide ((p : Int) + 1 ≤ numv d 36 2)) && true)) = _
  rw [h.dport, h.size]
  by_cases e : dp = p
  · subst e
    simp
    omega
  · simp [e]
    omega
theorem holds_sport {d : ByteArray} {a b sp dp : Int} (h : TcpFrame d a b sp dp) (v p q : Nat) (m : Int × Int) : ruleB ⟨v, csS p q⟩ d m = decide (p ≤ sp ∧ sp ≤ q) := by
  have e : ruleB ⟨v, csS p q⟩ d m = (holdsC 3 [6] d m && (holdsC 4 [p, q] d m && true)) := rfl
  rw [e, holds_tcp h m]
  unfold holdsC
  show (true && (decide (36 ≤ d.size) && (decide ((p : Int) ≤ numv d 34 2) && !decide ((q : Int) + 1 ≤ numv d 34 2)) && true)) = _
  rw [h.sport, h.size]
  by_cases e1 : (p : Int) ≤ sp
  · by_cases e2 : sp ≤ (q : Int)
    · simp [e1, e2]; omega
    · simp [e1, e2]; omega
  · simp [e1]
theorem holds_bare (v : Nat) (d : ByteArray) (m : Int × Int) : ruleB ⟨v, none8⟩ d m = true := rfl
theorem first_0 {x x1 y1 o : Nat} (hx : x < 3) (hx1 : x1 < 3) (hy1 : y1 < 3) (ho : o ≤ 65535) (l : List ByteArray) : linesOf ([glue 32 [wPolicy, wV x], glue 32 [wV x1, wProto, wUdp], glue 32 [wV y1, wProto, wTcp, wDport, dec o]].map ba ++ l) 0 bk0 = linesOf l 3 ⟨true, x, [⟨x1, csU⟩, ⟨y1, csD o⟩]⟩ := by
  show linesOf (_ :: _ :: _ :: l) 0 bk0 = _
  rw [lines_step (b' := ⟨true, x, []⟩) (by
      intro q hq
      simp only [List.mem_cons, List.not_mem_nil, or_false] at hq
      rcases hq with rfl | rfl
      · exact frw rfl (by decide)
      · exact fr hx) (line_pol hx)]
  rw [lines_step (b' := ⟨true, x, [⟨x1, csU⟩]⟩) (by
      intro q hq
      simp only [List.mem_cons, List.not_mem_nil, or_false] at hq
      rcases hq with rfl | rfl | rfl
      · exact fr hx1
      · exact frw rfl (by decide)
      · exact frw rfl (by decide)) (line_udp rfl (by simp) hx1)]
  rw [lines_step (b' := ⟨true, x, [⟨x1, csU⟩, ⟨y1, csD o⟩]⟩) (by
      intro q hq
      simp only [List.mem_cons, List.not_mem_nil, or_false] at hq
      rcases hq with rfl | rfl | rfl | rfl | rfl
      · exact fr hy1
      · exact frw rfl (by decide)
      · exact frw rfl (by decide)
      · exact frw rfl (by decide)
      · exact frd o) (line_tcp_dport rfl (by simp) hy1 ho)]
theorem dport_words {y p : Nat} (hy : y < 3) : ∀ q ∈ [wV y, wDport, dec p, wProto, wTcp], Free 32 q ∧ q ≠ [] := fun q hq => by
  simp only [List.mem_cons, List.not_mem_nil, or_false] at hq
  rcases hq with rfl | rfl | rfl | rfl | rfl
  · exact fr hy
  · exact frw rfl (by decide)
  · exact frd p
  · exact frw rfl (by decide)
  · exact frw rfl (by decide)
theorem bare_words {z : Nat} (hz : z < 3) : ∀ q ∈ [wV z], Free 32 q ∧ q ≠ [] := fun q hq => by
  rw [List.mem_singleton] at hq
  subst hq; exact fr hz
theorem fw10 {v : Nat} (h : v < 3) : Free 10 (wV v) := wV_free h 10 (Or.inr rfl)
theorem fd10 (n : Nat) : Free 10 (dec n) := dec_free n rfl
theorem wV_len {v : Nat} (h : v < 3) : (wV v).length ≤ 6 := by
  rcases wV_3 h with rfl | rfl | rfl <;> decide
/-- the lines of First's texts -/
def lnPol (x : Nat) : List UInt8 := glue 32 [wPolicy, wV x]
def lnUdp (v : Nat) : List UInt8 := glue 32 [wV v, wProto, wUdp]
def lnTd (v p : Nat) : List UInt8 := glue 32 [wV v, wProto, wTcp, wDport, dec p]
def lnDt (v p : Nat) : List UInt8 := glue 32 [wV v, wDport, dec p, wProto, wTcp]
theorem f10g {ls : List (List UInt8)} (h : ∀ p ∈ ls, Free 10 p) : Free 10 (glue 32 ls) := free_glue (by decide) ls h
theorem lnPol_f {x : Nat} (hx : x < 3) : Free 10 (lnPol x) := f10g (fun q hq => by
  simp only [List.mem_cons, List.not_mem_nil, or_false] at hq
  rcases hq with rfl | rfl
  · exact fr10 rfl
  · exact fw10 hx)
theorem lnUdp_f {x : Nat} (hx : x < 3) : Free 10 (lnUdp x) := f10g (fun q hq => by
  simp only [List.mem_cons, List.not_mem_nil, or_false] at hq
  rcases hq with rfl | rfl | rfl
  · exact fw10 hx
  · exact fr10 rfl
  · exact fr10 rfl)
theorem lnTd_f {x p : Nat} (hx : x < 3) : Free 10 (lnTd x p) := f10g (fun q hq => by
  simp only [List.mem_cons, List.not_mem_nil, or_false] at hq
  rcases hq with rfl | rfl | rfl | rfl | rfl
  · exact fw10 hx
  · exact fr10 rfl
  · exact fr10 rfl
  · exact fr10 rfl
  · exact fd10 p)
theorem lnDt_f {x p : Nat} (hx : x < 3) : Free 10 (lnDt x p) := f10g (fun q hq => by
  simp only [List.mem_cons, List.not_mem_nil, or_false] at hq
  rcases hq with rfl | rfl | rfl | rfl | rfl
  · exact fw10 hx
  · exact fr10 rfl
  · exact fd10 p
  · exact fr10 rfl
  · exact fr10 rfl)
theorem ln_len {x p : Nat} (hx : x < 3) (hp : p ≤ 65535) : (lnPol x).length ≤ 40 ∧ (lnUdp x).length ≤ 40 ∧ (lnTd x p).length ≤ 40 ∧ (lnDt x p).length ≤ 40 := by
  have h1 := wV_len hx
  have h2 := dec_len p (by omega)
  simp only [lnPol, lnUdp, lnTd, lnDt, glue, List.length_append, List.length_cons, wPolicy, wProto, wUdp, wTcp, wDport, List.length_nil]
  omega
theorem glue10_len : ∀ (ls : List (List UInt8)), (∀ p ∈ ls, p.length ≤ 100) → (glue 10 ls).length ≤ 101 * ls.length
  | [], _ => Nat.le_refl _
  | [p], h => by have := h p (List.mem_cons_self ..); simp [glue]; omega
  | p :: q :: r, h => by
    rw [glue_more, List.length_append, List.length_cons]
    have h1 := h p (List.mem_cons_self ..)
    have h2 := glue10_len (q :: r) (fun x hx => h x (List.mem_cons_of_mem _ hx))
    simp only [List.length_cons] at h2 ⊢
    omega
theorem all_cons {P : List UInt8 → Prop} {p : List UInt8} {r : List (List UInt8)} (h : P p) (g : ∀ q ∈ r, P q) : ∀ q ∈ p :: r, P q := fun q hq => by
  rcases List.mem_cons.1 hq with e | e
  · subst e; exact h
  · exact g q e
theorem all_nil {P : List UInt8 → Prop} : ∀ q ∈ ([] : List (List UInt8)), P q := fun q hq => by cases hq
def text0 (x x1 y1 o : Nat) : List UInt8 := glue 10 [lnPol x, lnUdp x1, lnTd y1 o, []]
def text1 (x x1 y1 o y p z : Nat) : List UInt8 := glue 10 [lnPol x, lnUdp x1, lnTd y1 o, lnDt y p, wV z, []]
def text2 (x x1 y1 o y p z : Nat) : List UInt8 := glue 10 [lnPol x, lnUdp x1, lnTd y1 o, wV z, lnDt y p, []]
structure Small (x x1 y1 o y p z : Nat) : Prop where
  x : x < 3
  x1 : x1 < 3
  y1 : y1 < 3
  o : o ≤ 65535
  y : y < 3
  p : p ≤ 65535
  z : z < 3
theorem text_len {x x1 y1 o y p z : Nat} (h : Small x x1 y1 o y p z) : (text0 x x1 y1 o).length ≤ 1000 ∧ (text1 x x1 y1 o y p z).length ≤ 1000 ∧ (text2 x x1 y1 o y p z).length ≤ 1000 := by
  have a1 := (ln_len h.x h.p).1
  have a2 := (ln_len h.x1 h.p).2.1
  have a3 := (ln_len h.y1 h.o).2.2.1
  have a4 := (ln_len h.y h.p).2.2.2
  have a5 := wV_len h.z
  refine ⟨?_, ?_, ?_⟩
  · refine Nat.le_trans (glue10_len _ ?_) (by decide : 101 * 4 ≤ 1000)
    exact all_cons (by omega) (all_cons (by omega) (all_cons (by omega) (all_cons (by simp) all_nil)))
  · refine Nat.le_trans (glue10_len _ ?_) (by decide : 101 * 6 ≤ 1000)
    exact all_cons (by omega) (all_cons (by omega) (all_cons (by omega) (all_cons (by omega) (all_cons (by omega) (all_cons (by simp) all_nil)))))
  · refine Nat.le_trans (glue10_len _ ?_) (by decide : 101 * 6 ≤ 1000)
    exact all_cons (by omega) (all_cons (by omega) (all_cons (by omega) (all_cons (by omega) (all_cons (by omega) (all_cons (by simp) all_nil)))))
theorem read0 {x x1 y1 o y p z : Nat} (h : Small x x1 y1 o y p z) : readT (ba (text0 x x1 y1 o)) = (0, 0, ⟨true, x, [⟨x1, csU⟩, ⟨y1, csD o⟩]⟩) := by
  refine read_lines _ _ ?_ (by have := (text_len h).1; unfold text0 at this; omega) ?_
  · exact all_cons (lnPol_f h.x) (all_cons (lnUdp_f h.x1) (all_cons (lnTd_f h.y1) (all_cons (free_nil _) all_nil)))
  · refine (first_0 h.x h.x1 h.y1 h.o [ba []]).trans ?_
    exact lines_blank 3 rfl
theorem read1 {x x1 y1 o y p z : Nat} (h : Small x x1 y1 o y p z) : readT (ba (text1 x x1 y1 o y p z)) = (0, 0, ⟨true, x, [⟨x1, csU⟩, ⟨y1, csD o⟩, ⟨y, csD p⟩, ⟨z, none8⟩]⟩) := by
  refine read_lines _ _ ?_ (by have := (text_len h).2.1; unfold text1 at this; omega) ?_
  · exact all_cons (lnPol_f h.x) (all_cons (lnUdp_f h.x1) (all_cons (lnTd_f h.y1) (all_cons (lnDt_f h.y) (all_cons (fw10 h.z) (all_cons (free_nil _) all_nil)))))
  · refine (first_0 h.x h.x1 h.y1 h.o [ba (lnDt y p), ba (wV z), ba []]).trans ?_
    refine (lines_step (p := wV y) (q := [wDport, dec p, wProto, wTcp]) (b' := ⟨true, x, [⟨x1, csU⟩, ⟨y1, csD o⟩, ⟨y, csD p⟩]⟩) (dport_words h.y) (line_dport_tcp rfl (by simp) h.y h.p)).trans ?_
    refine (lines_step (p := wV z) (q := []) (b' := ⟨true, x, [⟨x1, csU⟩, ⟨y1, csD o⟩, ⟨y, csD p⟩, ⟨z, none8⟩]⟩) (bare_words h.z) (line_bare rfl (by simp) h.z)).trans ?_
    exact lines_blank 5 rfl
theorem read2 {x x1 y1 o y p z : Nat} (h : Small x x1 y1 o y p z) : readT (ba (text2 x x1 y1 o y p z)) = (0, 0, ⟨true, x, [⟨x1, csU⟩, ⟨y1, csD o⟩, ⟨z, none8⟩, ⟨y, csD p⟩]⟩) := by
  refine read_lines _ _ ?_ (by have := (text_len h).2.2; unfold text2 at this; omega) ?_
  · exact all_cons (lnPol_f h.x) (all_cons (lnUdp_f h.x1) (all_cons (lnTd_f h.y1) (all_cons (fw10 h.z) (all_cons (lnDt_f h.y) (all_cons (free_nil _) all_nil)))))
  · refine (first_0 h.x h.x1 h.y1 h.o [ba (wV z), ba (lnDt y p), ba []]).trans ?_
    refine (lines_step (p := wV z) (q := []) (b' := ⟨true, x, [⟨x1, csU⟩, ⟨y1, csD o⟩, ⟨z, none8⟩]⟩) (bare_words h.z) (line_bare rfl (by simp) h.z)).trans ?_
    refine (lines_step (p := wV y) (q := [wDport, dec p, wProto, wTcp]) (b' := ⟨true, x, [⟨x1, csU⟩, ⟨y1, csD o⟩, ⟨z, none8⟩, ⟨y, csD p⟩]⟩) (dport_words h.y) (line_dport_tcp rfl (by simp) h.y h.p)).trans ?_
    exact lines_blank 5 rfl
/-- what the rules of First's texts say -/
theorem verd0 {d : ByteArray} {a b sp dp : Int} (h : TcpFrame d a b sp dp) (x x1 y1 o : Nat) (m : Int × Int) (ho : ¬ dp = o) : verdB x d m [⟨x1, csU⟩, ⟨y1, csD o⟩] = x := by
  simp only [verdB, holds_udp h, holds_dport h, decide_eq_true_eq, ho]
  simp
theorem verd1 {d : ByteArray} {a b sp dp : Int} (h : TcpFrame d a b sp dp) (x x1 y1 o y p z : Nat) (m : Int × Int) (ho : ¬ dp = o) (hp : dp = p) : verdB x d m [⟨x1, csU⟩, ⟨y1, csD o⟩, ⟨y, csD p⟩, ⟨z, none8⟩] = y := by
  have e1 : decide (dp = (o : Int)) = false := by simp [ho]
  have e2 : decide (dp = (p : Int)) = true := by simp [hp]
  simp only [verdB, holds_udp h, holds_dport h, e1, e2]
  simp
theorem verd2 {d : ByteArray} {a b sp dp : Int} (h : TcpFrame d a b sp dp) (x x1 y1 o y p z : Nat) (m : Int × Int) (ho : ¬ dp = o) : verdB x d m [⟨x1, csU⟩, ⟨y1, csD o⟩, ⟨z, none8⟩, ⟨y, csD p⟩] = z := by
  simp only [verdB, holds_udp h, holds_dport h, holds_bare, decide_eq_true_eq, ho]
  simp
end Go.Proofs.YtclpnafiiobfhabGreatDoor

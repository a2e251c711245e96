import Derived.Test.YtclpnafiiobfhabGreatDoorZKa
import Derived.Test.YtclpnafiiobfhabGreatDoorZFr
import Derived.Test.YtclpnafiiobfhabGreatDoorZGe
import Derived.Deep.CutBlock
namespace Go.Proofs.YtclpnafiiobfhabGreatDoor
open Go.RowKit
set_option linter.unusedVariables false
set_option linter.unusedSimpArgs false

/-! ### Spoken's rules -/
def wInn : List UInt8 := [105, 110]
def wOne : List UInt8 := [49]
def wState : List UInt8 := [115, 116, 97, 116, 101]
def wNew : List UInt8 := [110, 101, 119]
def wEst : List UInt8 := [101, 115, 116, 97, 98, 108, 105, 115, 104, 101, 100]
def csA (p : Nat) : Cs := [some [1], none, none, some [6], none, some [p, p], none, some [1, 0, 0]]
def csE : Cs := [none, none, none, none, none, none, none, some [0, 1, 0]]
theorem in_plc : plc nws (ba wInn) = (0 : Nat) := by decide
theorem state_plc : plc nws (ba wState) = (7 : Nat) := by decide
theorem one_val : condVal 0 (ba wOne) = (0, [1]) := by decide
theorem new_val : condVal 7 (ba wNew) = (0, [1, 0, 0]) := by decide
theorem est_val : condVal 7 (ba wEst) = (0, [0, 1, 0]) := by decide
theorem line_spk {b : Bk} {p : Nat} (hb : b.has = true) (hl : b.rs.length < 48) (hp : p ≤ 65535) : lineOf b ([wV 1, wInn, wOne, wProto, wTcp, wDport, dec p, wState, wNew].map ba) = (0, ⟨true, b.pol, b.rs ++ [⟨1, csA p⟩]⟩) := by
  refine line_rule hb (rule_line (wV_plc (by decide)) hl ?_ rfl)
  show conds [ba wInn, ba wOne, ba wProto, ba wTcp, ba wDport, ba (dec p), ba wState, ba wNew] none8 = _
  rw [conds_next 0 [1] in_plc rfl one_val, conds_next 3 [6] proto_plc rfl tcp_val, conds_next 5 [p, p] dport_plc rfl (port_one p hp), conds_next 7 [1, 0, 0] state_plc rfl new_val]
  rfl
theorem line_est {b : Bk} (hb : b.has = true) (hl : b.rs.length < 48) : lineOf b ([wV 1, wState, wEst].map ba) = (0, ⟨true, b.pol, b.rs ++ [⟨1, csE⟩]⟩) := by
  refine line_rule hb (rule_line (wV_plc (by decide)) hl ?_ rfl)
  show conds [ba wState, ba wEst] none8 = _
  rw [conds_next 7 [0, 1, 0] state_plc rfl est_val]
  rfl
def lnSp (p : Nat) : List UInt8 := glue 32 [wV 1, wInn, wOne, wProto, wTcp, wDport, dec p, wState, wNew]
def lnEs : List UInt8 := glue 32 [wV 1, wState, wEst]
def textS (p : Nat) : List UInt8 := glue 10 [lnPol 0, lnSp p, lnEs]
theorem lnSp_f (p : Nat) : Free 10 (lnSp p) := f10g (all_cons (fw10 (by decide)) (all_cons (fr10 rfl) (all_cons (fr10 rfl) (all_cons (fr10 rfl) (all_cons (fr10 rfl) (all_cons (fr10 rfl) (all_cons (fd10 p) (all_cons (fr10 rfl) (all_cons (fr10 rfl) all_nil)))))))))
theorem lnEs_f : Free 10 lnEs := f10g (all_cons (fw10 (by decide)) (all_cons (fr10 rfl) (all_cons (fr10 rfl) all_nil)))
theorem sp_words (p : Nat) : ∀ x ∈ [wV 1, wInn, wOne, wProto, wTcp, wDport, dec p, wState, wNew], Free 32 x ∧ x ≠ [] :=
  all_cons (P := fun x => Free 32 x ∧ x ≠ []) (fr (by decide)) (all_cons (frw rfl (by decide)) (all_cons (frw rfl (by decide)) (all_cons (frw rfl (by decide)) (all_cons (frw rfl (by decide)) (all_cons (frw rfl (by decide)) (all_cons (frd p) (all_cons (frw rfl (by decide)) (all_cons (frw rfl (by decide)) all_nil))))))))
theorem es_words : ∀ x ∈ [wV 1, wState, wEst], Free 32 x ∧ x ≠ [] :=
  all_cons (P := fun x => Free 32 x ∧ x ≠ []) (fr (by decide)) (all_cons (frw rfl (by decide)) (all_cons (frw rfl (by decide)) all_nil))
theorem lnSp_len {p : Nat} (hp : p < 100000) : (lnSp p).length ≤ 60 := by
  have := dec_len p (by omega)
  have h1 : (wV 1).length = 6 := by decide
  simp [lnSp, glue, wInn, wOne, wProto, wTcp, wDport, wState, wNew, h1]
  omega
theorem lenS {p : Nat} (hp : p ≤ 65535) : (textS p).length ≤ 2000 :=
  Nat.le_trans (glue10_len _ (all_cons (by have := pol_len; omega) (all_cons (by have := lnSp_len (p := p) (by omega); omega) (all_cons (by decide) all_nil)))) (by decide : 101 * 3 ≤ 2000)
theorem readS {p : Nat} (hp : p ≤ 65535) : readT (ba (textS p)) = (0, 0, ⟨true, 0, [⟨1, csA p⟩, ⟨1, csE⟩]⟩) := by
  refine read_lines _ _ (all_cons (lnPol_f (by decide)) (all_cons (lnSp_f p) (all_cons lnEs_f all_nil))) (lenS hp) ?_
  refine (pol_step [ba (lnSp p), ba lnEs]).trans ?_
  refine (lines_step (p := wV 1) (q := [wInn, wOne, wProto, wTcp, wDport, dec p, wState, wNew]) (sp_words p) (line_spk (b := ⟨true, 0, []⟩) rfl (by simp) hp)).trans ?_
  refine (lines_step (p := wV 1) (q := [wState, wEst]) es_words (line_est (b := ⟨true, 0, [⟨1, csA p⟩]⟩) rfl (by simp))).trans ?_
  exact lines_end _ rfl
theorem strS (p : Nat) : (⟨#[112, 111, 108, 105, 99, 121, 32, 100, 114, 111, 112, 10, 97, 99, 99, 101, 112, 116, 32, 105, 110, 32, 49, 32, 112, 114, 111, 116, 111, 32, 116, 99, 112, 32, 100, 112, 111, 114, 116, 32]⟩ : ByteArray) ++ ba (dec p) ++ ⟨#[32, 115, 116, 97, 116, 101, 32, 110, 101, 119, 10, 97, 99, 99, 101, 112, 116, 32, 115, 116, 97, 116, 101, 32, 101, 115, 116, 97, 98, 108, 105, 115, 104, 101, 100]⟩ = ba (textS p) := by
  show ba [112, 111, 108, 105, 99, 121, 32, 100, 114, 111, 112, 10, 97, 99, 99, 101, 112, 116, 32, 105, 110, 32, 49, 32, 112, 114, 111, 116, 111, 32, 116, 99, 112, 32, 100, 112, 111, 114, 116, 32] ++ ba (dec p) ++ ba [32, 115, 116, 97, 116, 101, 32, 110, 101, 119, 10, 97, 99, 99, 101, 112, 116, 32, 115, 116, 97, 116, 101, 32, 101, 115, 116, 97, 98, 108, 105, 115, 104, 101, 100] = _
  simp only [ba_append]
  congr 1
  have h0 : wV 0 = [100, 114, 111, 112] := by decide
  have h1 : wV 1 = [97, 99, 99, 101, 112, 116] := by decide
  simp [textS, lnPol, lnSp, lnEs, glue, wPolicy, wProto, wTcp, wDport, wInn, wOne, wState, wNew, wEst, h0, h1]
theorem holds_spk {d : ByteArray} {a b sp dp : Int} (h : TcpFrame d a b sp dp) (p : Nat) (i t : Int) (ht : 0 ≤ t ∧ t ≤ 2) : ruleB ⟨1, csA p⟩ d (i, t) = decide (i = 1 ∧ dp = p ∧ t = 0) := by
  have e : ruleB ⟨1, csA p⟩ d (i, t) = (holdsC 0 [1] d (i, t) && (holdsC 3 [6] d (i, t) && (holdsC 5 [p, p] d (i, t) && (holdsC 7 [1, 0, 0] d (i, t) && true)))) := rfl
  have e5 : holdsC 5 [p, p] d (i, t) = decide (dp = p) := by
    unfold holdsC
    show (decide (38 ≤ d.size) && (decide ((p : Int) ≤ numv d 36 2) && !decide ((p : Int) + 1 ≤ numv d 36 2))) = _
    rw [h.dport, h.size]
    by_cases e : dp = p
    · subst e; simp; omega
    · simp [e]; omega
  have e0 : holdsC 0 [1] d (i, t) = (i == 1) := by
    unfold holdsC
    show (decide (0 ≤ d.size) && (i == 1)) = _
    simp
  have e7 : holdsC 7 [1, 0, 0] d (i, t) = decide (t = 0) := by
    unfold holdsC
    show (decide (0 ≤ d.size) && (!decide (3 ≤ t) && ((true || !(t == 0)) && ((false || !(t == 1)) && (false || !(t == 2)))))) = _
    have : t = 0 ∨ t = 1 ∨ t = 2 := by omega
    rcases this with rfl | rfl | rfl <;> simp
  rw [e, holds_tcp h (i, t), e5, e0, e7]
  by_cases q1 : i = 1 <;> by_cases q2 : dp = p <;> by_cases q3 : t = 0 <;> simp [q1, q2, q3]
theorem holds_est (d : ByteArray) (i t : Int) (ht : 0 ≤ t ∧ t ≤ 2) : ruleB ⟨1, csE⟩ d (i, t) = decide (t = 1) := by
  have e : ruleB ⟨1, csE⟩ d (i, t) = (holdsC 7 [0, 1, 0] d (i, t) && true) := rfl
  rw [e]
  unfold holdsC
  show (decide (0 ≤ d.size) && (!decide (3 ≤ t) && ((false || !(t == 0)) && ((true || !(t == 1)) && (false || !(t == 2))))) && true) = _
  have : t = 0 ∨ t = 1 ∨ t = 2 := by omega
  rcases this with rfl | rfl | rfl <;> simp
theorem verdS {d : ByteArray} {a b sp dp : Int} (h : TcpFrame d a b sp dp) (p : Nat) (i t : Int) (ht : 0 ≤ t ∧ t ≤ 2) : verdB 0 d (i, t) [⟨1, csA p⟩, ⟨1, csE⟩] = if (i = 1 ∧ dp = p ∧ t = 0) ∨ t = 1 then 1 else 0 := by
  unfold verdB
  rw [holds_spk h p i t ht]
  by_cases q : i = 1 ∧ dp = p ∧ t = 0
  · rw [if_pos (by simp [q]), if_pos (.inl q)]
  · rw [if_neg (by simpa using q)]
    unfold verdB
    rw [holds_est d i t ht]
    by_cases q2 : t = 1
    · rw [if_pos (by simp [q2]), if_pos (.inr q2)]
    · rw [if_neg (by simpa using q2), if_neg (by rintro (z | z); exact q z; exact q2 z)]
      rfl
/-- a frame that was built is fine, and is what it was built of -/
theorem built_fine {d : ByteArray} {a b p sp dp f : Int} (h : parsedAs d = .tuple #[.agg #[.int .u32 a, .int .u32 b, .int .u8 p, .int .u16 sp, .int .u16 dp, .int .u8 f], .int .u8 0]) : cls d = 0 ∧ hdOf d = ⟨a, b, p, sp, dp, f⟩ := by
  by_cases hc : cls d = 0
  · refine ⟨hc, ?_⟩
    rw [show parsedAs d = .tuple #[.agg (hdOf d).cells, .int .u8 0] from by simp [parsedAs, hc, hdOf_cells]] at h
    generalize hdOf d = H at h ⊢
    obtain ⟨a', b', p', s', d', f'⟩ := H
    simp [Hd.cells] at h
    simp [h]
  · rw [show parsedAs d = .tuple #[.agg hdr0, .int .u8 (cls d)] from by simp [parsedAs, hc]] at h
    simp at h
    exact absurd h.2 hc
theorem tcp_built (a b sp dp f : Int) (hr : Ranges a b 6 sp dp f) (hf : f ≤ 63) : cls (ofL (frameI a b 6 sp dp f 54 [])) = 0 ∧ hdOf (ofL (frameI a b 6 sp dp f 54 [])) = ⟨a, b, 6, sp, dp, f⟩ := by
  have h := frame_parse a b 6 sp dp f 54 [] [] hr (.inl ⟨rfl, hf⟩) (by simp) (fun x hx => by cases hx) (fun x hx => by cases hx) (by decide)
  rw [List.append_nil] at h
  exact built_fine h
end Go.Proofs.YtclpnafiiobfhabGreatDoor
namespace Go.Proofs.YtclpnafiiobfhabGreatDoor
open Go.RowKit
set_option linter.unusedVariables false
set_option linter.unusedSimpArgs false

theorem evG_fine {d : ByteArray} {h : Hd} (hc : cls d = 0) (hh : hdOf d = h) (R : Option Bk) (room now : Nat) (F : List Fl) (i : Int) : (evG R room now F d i).1.v = (verdG R d i (lookS F h) : Int) ∧ (evG R room now F d i).2 = if verdG R d i (lookS F h) = 1 then (keepS room now F h).2 else F := by
  unfold evG
  rw [if_pos hc, hh]
  by_cases q : verdG R d i (lookS F h) = 1
  · rw [if_pos q, if_pos q]; exact ⟨by rw [q]; rfl, rfl⟩
  · rw [if_neg q, if_neg q]; exact ⟨rfl, rfl⟩
def bkS (p : Nat) : Bk := ⟨true, 0, [⟨1, csA p⟩, ⟨1, csE⟩]⟩
theorem verdG_S {d : ByteArray} {a b sp dp : Int} (h : TcpFrame d a b sp dp) (p : Nat) (i : Int) (t : Nat) (ht : t ≤ 2) : verdG (some (bkS p)) d i (t : Int) = if (i = 1 ∧ dp = p ∧ t = 0) ∨ t = 1 then 1 else 0 := by
  have e := verdS h p i (t : Int) (by omega)
  show verdB 0 d (i, (t : Int)) [⟨1, csA p⟩, ⟨1, csE⟩] = _
  rw [e]
  by_cases q : (i = 1 ∧ dp = p ∧ t = 0) ∨ t = 1
  · rw [if_pos q, if_pos (by omega)]
  · rw [if_neg q, if_neg (by omega)]
section
variable (a b sp dp : Int)
abbrev hSyn : Hd := ⟨a, b, 6, sp, dp, 2⟩
abbrev hAns : Hd := ⟨b, a, 6, dp, sp, 18⟩
abbrev hFin : Hd := ⟨a, b, 6, sp, dp, 17⟩
theorem look_none {h : Hd} (hf : freshH h = false) : lookS [] h = 2 := by
  show stateF none h = 2
  unfold stateF; rw [if_neg (by rw [hf]; decide)]
theorem look_new {h : Hd} (hf : freshH h = true) : lookS [] h = 0 := by
  show stateF none h = 0
  unfold stateF; rw [if_pos hf]
theorem fresh_syn : freshH (hSyn a b sp dp) = true := by simp [freshH]
theorem fresh_ans : freshH (hAns a b sp dp) = false := by simp [freshH]
theorem fresh_fin : freshH (hFin a b sp dp) = false := by simp [freshH]
theorem look_one {f : Fl} {h : Hd} (hf : fitsF f h ≠ 0) : findD [f] h = some 0 ∧ lookS [f] h = if (f.rep || backF f h) = true then 1 else 0 := by
  have e : findD [f] h = some 0 := by unfold findD; simp [List.findIdx?_cons, hf]
  refine ⟨e, ?_⟩
  unfold lookS
  rw [e]
  rfl
theorem keep_one {f : Fl} {h : Hd} (hf : fitsF f h ≠ 0) (room now : Nat) : (keepS room now [f] h).2 = [heardF f h now] := by
  unfold keepS
  rw [(look_one hf).1]
  rfl
/-- nobody has spoken -/
theorem step_none {d : ByteArray} {h : Hd} {x y u v : Int} (hT : TcpFrame d x y u v) (hc : cls d = 0) (hh : hdOf d = h) (hf : freshH h = false) (p now : Nat) (i : Int) : (evG (some (bkS p)) 4 now [] d i).1.v = 0 ∧ (evG (some (bkS p)) 4 now [] d i).2 = [] := by
  have e := evG_fine hc hh (some (bkS p)) 4 now [] i
  rw [look_none hf, verdG_S hT p i 2 (by omega), if_neg (by omega)] at e
  exact ⟨e.1, by rw [e.2, if_neg (by omega)]⟩
/-- who speaks first may -/
theorem step_syn {d : ByteArray} (hT : TcpFrame d a b sp dp) (hc : cls d = 0) (hh : hdOf d = hSyn a b sp dp) (p : Nat) (hp : dp = p) : (evG (some (bkS p)) 4 0 [] d 1).1.v = 1 ∧ (evG (some (bkS p)) 4 0 [] d 1).2 = [⟨a, b, 6, sp, dp, false, false, 30⟩] := by
  have e := evG_fine hc hh (some (bkS p)) 4 0 [] 1
  rw [look_new (fresh_syn a b sp dp), verdG_S hT p 1 0 (by omega), if_pos (by simp [hp])] at e
  refine ⟨e.1, ?_⟩
  rw [e.2, if_pos rfl]
  unfold keepS
  rw [show findD [] (hSyn a b sp dp) = none from rfl]
  dsimp only
  rw [if_pos (fresh_syn a b sp dp)]
  rfl
theorem fits_ans (rep clo : Bool) (u : Nat) : fitsF ⟨a, b, 6, sp, dp, rep, clo, u⟩ (hAns a b sp dp) ≠ 0 := by
  unfold fitsF
  dsimp only
  rw [if_neg (by simp)]
  split
  · decide
  · rw [if_pos ⟨rfl, rfl, rfl, rfl⟩]; decide
theorem fits_fin (rep clo : Bool) (u : Nat) : fitsF ⟨a, b, 6, sp, dp, rep, clo, u⟩ (hFin a b sp dp) ≠ 0 := by
  unfold fitsF
  dsimp only
  rw [if_neg (by simp), if_pos ⟨rfl, rfl, rfl, rfl⟩]; decide
theorem back_ans (rep clo : Bool) (u : Nat) : backF ⟨a, b, 6, sp, dp, rep, clo, u⟩ (hAns a b sp dp) = !decide (b = a ∧ dp = sp) := by
  unfold backF; simp
/-- who answers may, another may not -/
theorem step_self {d : ByteArray} {x y u v : Int} (hT : TcpFrame d x y u v) (hc : cls d = 0) (hh : hdOf d = hAns a b sp dp) (p : Nat) (hs : b = a ∧ dp = sp) : (evG (some (bkS p)) 4 0 [⟨a, b, 6, sp, dp, false, false, 30⟩] d 2).1.v = 0 := by
  have e := (evG_fine hc hh (some (bkS p)) 4 0 [⟨a, b, 6, sp, dp, false, false, 30⟩] 2).1
  rw [(look_one (fits_ans a b sp dp false false 30)).2, back_ans, decide_eq_true hs, if_neg (by simp), verdG_S hT p 2 0 (by omega), if_neg (by omega)] at e
  exact e
theorem step_ans {d : ByteArray} {x y u v : Int} (hT : TcpFrame d x y u v) (hc : cls d = 0) (hh : hdOf d = hAns a b sp dp) (p now : Nat) (rep : Bool) (w : Nat) (hs : rep = true ∨ ¬ (b = a ∧ dp = sp)) (hn : now ≤ 1000) : (evG (some (bkS p)) 4 now [⟨a, b, 6, sp, dp, rep, false, w⟩] d 2).1.v = 1 ∧ (evG (some (bkS p)) 4 now [⟨a, b, 6, sp, dp, rep, false, w⟩] d 2).2 = [⟨a, b, 6, sp, dp, true, false, now + 300⟩] := by
  have e := evG_fine hc hh (some (bkS p)) 4 now [⟨a, b, 6, sp, dp, rep, false, w⟩] 2
  have hb : (rep || backF ⟨a, b, 6, sp, dp, rep, false, w⟩ (hAns a b sp dp)) = true := by
    rw [back_ans]
    rcases hs with rfl | hs
    · rfl
    · rw [decide_eq_false hs]; simp
  rw [(look_one (fits_ans a b sp dp rep false w)).2, if_pos hb, verdG_S hT p 2 1 (by omega), if_pos (.inr rfl)] at e
  refine ⟨e.1, ?_⟩
  rw [e.2, if_pos rfl, keep_one (fits_ans a b sp dp rep false w)]
  unfold heardF
  dsimp only
  rw [hb]
  have he : endsH (hAns a b sp dp) = false := by simp [endsH]
  rw [he]
  show [Fl.mk a b 6 sp dp true false (plusT now 300)] = _
  rw [show plusT now 300 = now + 300 from by unfold plusT topT; rw [if_neg (by omega)]]
theorem step_fin {d : ByteArray} {x y u v : Int} (hT : TcpFrame d x y u v) (hc : cls d = 0) (hh : hdOf d = hFin a b sp dp) (p now : Nat) (w : Nat) (hn : now ≤ 1000) : (evG (some (bkS p)) 4 now [⟨a, b, 6, sp, dp, true, false, w⟩] d 2).1.v = 1 ∧ (evG (some (bkS p)) 4 now [⟨a, b, 6, sp, dp, true, false, w⟩] d 2).2 = [⟨a, b, 6, sp, dp, true, true, now + 10⟩] := by
  have e := evG_fine hc hh (some (bkS p)) 4 now [⟨a, b, 6, sp, dp, true, false, w⟩] 2
  rw [(look_one (fits_fin a b sp dp true false w)).2, if_pos (by simp), verdG_S hT p 2 1 (by omega), if_pos (.inr rfl)] at e
  refine ⟨e.1, ?_⟩
  rw [e.2, if_pos rfl, keep_one (fits_fin a b sp dp true false w)]
  unfold heardF
  dsimp only
  have he : endsH (hFin a b sp dp) = true := by simp [endsH]
  rw [he]
  show [Fl.mk a b 6 sp dp true true (plusT now 10)] = _
  rw [show plusT now 10 = now + 10 from by unfold plusT topT; rw [if_neg (by omega)]]
end
theorem alive_one (now : Nat) (f : Fl) : aliveD now [f] = if now < f.u then [f] else [] := by
  unfold aliveD
  by_cases q : now < f.u <;> simp [q]
theorem plus_small {a b : Nat} (ha : a ≤ 1000) (hb : b ≤ 1000) : plusT a b = a + b := by unfold plusT topT; rw [if_neg (by omega)]
end Go.Proofs.YtclpnafiiobfhabGreatDoor
namespace Go.Proofs.YtclpnafiiobfhabGreatDoor
open Go.RowKit
set_option linter.unusedVariables false
set_option linter.unusedSimpArgs false

theorem row_of {W Wr : World} {g : Nat} {d : ByteArray} (e : W.heap[g]? = Wr.heap[g]?) (h : Row Wr g 0 d) : Row W g 0 d := fun i hi => (World.cell?_of_block (a := ⟨g, 0 + i, none⟩) e).trans (h i hi)
theorem cells_of {W Wr : World} {g i : Nat} {v : Value} (e : W.heap[g]? = Wr.heap[g]?) (h : Wr.cell? ⟨g, i, none⟩ = some v) : W.cell? ⟨g, i, none⟩ = some v := (World.cell?_of_block (a := ⟨g, i, none⟩) e).trans h
theorem build_tcp (x0 x1 x3 x4 x5 : Int) (hR : Ranges x0 x1 6 x3 x4 x5) (h5 : x5 ≤ 63) (W : World) : Calls Tryz.prog 10 #[.agg #[.int .u32 x0, .int .u32 x1, .int .u8 6, .int .u16 x3, .int .u16 x4, .int .u8 x5], .slice none 0 0] W fun e w' => ∃ g, e = .returned (.tuple #[.slice (some ⟨g, 0, none⟩) 54 54, .int .i64 0]) ∧ W.heap.size ≤ g ∧ Below W.heap.size W w' ∧ Buf w' g (frameI x0 x1 6 x3 x4 x5 54 []) :=
  plBuild_yes x0 x1 6 x3 x4 x5 none 0 [] W hR.a hR.b hR.p hR.sp hR.dp hR.f (by simp) (fun x hx => by cases hx) (.inl rfl) (by simp [mayB]; omega) 54 (by decide)
/-- a frame of TCP that lies in a block -/
structure Frm (W : World) (g : Nat) (d : ByteArray) (h : Hd) : Prop where
  row : Row W g 0 d
  tcp : TcpFrame d h.a h.b h.s h.d
  cls : cls d = 0
  hd : hdOf d = h
theorem frm_built {W : World} {g : Nat} {x0 x1 x3 x4 x5 : Int} (hR : Ranges x0 x1 6 x3 x4 x5) (h5 : x5 ≤ 63) (hB : Buf W g (frameI x0 x1 6 x3 x4 x5 54 [])) : Frm W g (ofL (frameI x0 x1 6 x3 x4 x5 54 [])) ⟨x0, x1, 6, x3, x4, x5⟩ := by
  obtain ⟨hY, hT⟩ := tcp_frame x0 x1 x3 x4 x5 hR
  obtain ⟨hc, hh⟩ := tcp_built x0 x1 x3 x4 x5 hR h5
  exact ⟨hB.row hY, hT, hc, hh⟩
theorem Frm.of {W Wr : World} {g : Nat} {d : ByteArray} {h : Hd} (q : Frm Wr g d h) (e : W.heap[g]? = Wr.heap[g]?) : Frm W g d h := ⟨row_of e q.row, q.tcp, q.cls, q.hd⟩
/-- a gate takes a frame of TCP -/
theorem spk_tcp {w Wr W : World} {Ks : List Nat} {Q K : Nat} {R : Option Bk} {now : Nat} {F : List Fl} {N : Nat} (h : Spk w Wr W Ks Q K R 4 now F N) (hL : Laid w) (hN : N < 1000) {g : Nat} {d : ByteArray} {hd : Hd} (hf : Frm W g d hd) (hg : g < W.heap.size) (i : Int) (hi : 0 ≤ i ∧ i ≤ 255) (v : Int) (F' : List Fl) (hv : (evG R 4 now F d i).1.v = v ∧ (evG R 4 now F d i).2 = F') :
    Calls Tryz.prog 15 #[.pointer (some ⟨Q, 0, none⟩), .int .u8 i, .slice (some ⟨g, 0, none⟩) 54 54] W fun e w' => e = .returned (.int .u8 v) ∧ Spk w Wr w' Ks Q K R 4 now F' (N + 1) := by
  have z := spk_frame h hL (by omega) d g 54 i hf.row hg (by rw [hf.tcp.size]; omega) (by rw [hf.tcp.size]; omega) (by decide) hi hf.cls
  rw [hf.tcp.size, hv.1, hv.2] at z
  exact z
set_option maxRecDepth 100000 in
set_option maxHeartbeats 6400000 in
theorem spoken_any (a b c d : Int) (w : World) (hL : Laid w) (hM : MaxL w) (hc : -9223372036854775808 ≤ c ∧ c ≤ 9223372036854775807) (hd : -9223372036854775808 ≤ d ∧ d ≤ 9223372036854775807) :
    Calls Tryz.prog 7 #[.int .i64 a, .int .i64 b, .int .i64 c, .int .i64 d] w fun e w' => e = .returned (.bool true) ∧ Below w.heap.size w w' := by
  have HL : Hid (Laid w ∧ MaxL w) := ⟨hL, hM⟩
  have HH : Hid (Calls _ _ _ w _) := kheader_tcp a b c w hc
  have hR : Ranges (a % 4294967296) (b % 4294967296) 6 (IntKind.u16.wrap c) (IntKind.u16.wrap (c / 65536)) 2 := by
    refine ⟨by omega, by omega, by omega, ?_, ?_, by omega⟩
    · rw [IntKind.wrap_u16]; omega
    · rw [IntKind.wrap_u16]; omega
  generalize a % 4294967296 = x0 at HH hR
  generalize b % 4294967296 = x1 at HH hR
  generalize IntKind.u16.wrap c = x3 at HH hR
  generalize IntKind.u16.wrap (c / 65536) = x4 at HH hR
  generalize pk (c / 4294967296) 64 = x5 at HH
  have HR : Hid (Ranges x0 x1 6 x3 x4 2 ∧ Ranges x1 x0 6 x4 x3 18 ∧ Ranges x0 x1 6 x3 x4 17) := ⟨hR, ⟨hR.b, hR.a, hR.p, hR.dp, hR.sp, by omega⟩, ⟨hR.a, hR.b, hR.p, hR.sp, hR.dp, by omega⟩⟩
  have HP : Hid (∀ (W : World), Calls Tryz.prog 12 #[.int .i64 d, .int .i64 600] W fun e w' => e = .returned (.int .i64 (pk d 600)) ∧ w' = W) := fun W => pick_any d 600 W hd (by omega)
  have pb := pk_bd d 600 (by omega)
  obtain ⟨wt, hwt⟩ : ∃ wt : Nat, pk d 600 = (wt : Int) := ⟨(pk d 600).toNat, by omega⟩
  rw [hwt] at HP pb
  obtain ⟨p, hp⟩ : ∃ p : Nat, x4 = (p : Int) := ⟨x4.toNat, by have := hR.dp; omega⟩
  have hpb : p ≤ 65535 := by have := hR.dp; omega
  have hpb' : (p : Int) ≤ 65535 := by omega
  subst hp
  have HB1 : Hid (∀ W : World, Calls _ _ _ W _) := fun W => build_tcp x0 x1 x3 (p : Int) 2 HR.out.1 (by omega) W
  have HB2 : Hid (∀ W : World, Calls _ _ _ W _) := fun W => build_tcp x1 x0 (p : Int) x3 18 HR.out.2.1 (by omega) W
  clear hL hM hR hwt hc hd
  go_enter Tryz.func7, Tryz.ntmps7
  go_upto_region 4 with (go_at_call 9; refine HH.out.mono ?_; rintro e w1 ⟨rfl, hb1⟩; have HW1 : Hid (Below w.heap.size w w1) := hb1; clear hb1)
  obtain ⟨W3, hW3⟩ : ∃ W3, (w1.alloc (.cells #[.int .u32 x0, .int .u32 x1, .int .u8 6, .int .u16 x3, .int .u16 (p : Int), .int .u8 2] 28)).alloc (.cells #[.int .u32 x1, .int .u32 x0, .int .u8 6, .int .u16 (p : Int), .int .u16 x3, .int .u8 18] 28) = W3 := ⟨_, rfl⟩
  rw [hW3]
  have HB9 : Hid (Blk 28 W3 w1.heap.size [.int .u32 x0, .int .u32 x1, .int .u8 6, .int .u16 x3, .int .u16 (p : Int), .int .u8 2]) := by rw [← hW3]; exact (Blk.made w1 _ [.int .u32 x0, .int .u32 x1, .int .u8 6, .int .u16 x3, .int .u16 (p : Int), .int .u8 2] (list_one rfl)).alloc _
  have HB10 : Hid (Blk 28 W3 (w1.heap.size + 1) [.int .u32 x1, .int .u32 x0, .int .u8 6, .int .u16 (p : Int), .int .u16 x3, .int .u8 18]) := by
    rw [← hW3]
    have q := Blk.made (w1.alloc (.cells #[.int .u32 x0, .int .u32 x1, .int .u8 6, .int .u16 x3, .int .u16 (p : Int), .int .u8 2] 28)) 28 [.int .u32 x1, .int .u32 x0, .int .u8 6, .int .u16 (p : Int), .int .u16 x3, .int .u8 18] (list_one rfl)
    rw [show (w1.alloc (.cells #[.int .u32 x0, .int .u32 x1, .int .u8 6, .int .u16 x3, .int .u16 (p : Int), .int .u8 2] 28)).heap.size = w1.heap.size + 1 from by simp] at q
    exact q
  have HW3 : Hid (Below w.heap.size w W3) := by rw [← hW3]; exact (HW1.out.alloc HW1.out.size _).alloc (by have := HW1.out.size; simp; omega) _
  have hw9 : w.heap.size ≤ w1.heap.size := HW1.out.size
  obtain ⟨B9, hB9⟩ : ∃ B9, w1.heap.size = B9 := ⟨_, rfl⟩
  rw [hB9] at HB9 HB10 hw9
  rw [hB9]
  have c0 := HB9.out.cell 0 _ rfl
  have c1 := HB9.out.cell 1 _ rfl
  have c3 := HB9.out.cell 3 _ rfl
  have c4 := HB9.out.cell 4 _ rfl
  clear hW3 hB9 HH
  obtain ⟨sf, hsf⟩ : ∃ sf : Bool, decide (x0 = x1 ∧ x3 = (p : Int)) = sf := ⟨_, rfl⟩
  have HSF : Hid (decide (x0 = x1 ∧ x3 = (p : Int)) = sf) := hsf
  go_cut [11] from 42 to 53 (fun x w' => x = .bool sf ∧ w' = W3)
  case first =>
    by_cases q1 : x0 = x1
    · have t1 : (x0 == x1) = true := by simpa using q1
      by_cases q2 : x3 = (p : Int)
      · have t2 : (x3 == (p : Int)) = true := by simpa using q2
        have e : sf = true := by rw [← hsf]; simp [q1, q2]
        clear q1 q2 hsf
        go_wp2_with fail
        go_meet
        exact ⟨by rw [e], rfl⟩
      · have t2 : (x3 == (p : Int)) = false := by simpa using q2
        have e : sf = false := by rw [← hsf]; simp [q2]
        clear q1 q2 hsf
        go_wp2_with fail
        go_meet
        exact ⟨by rw [e], rfl⟩
    · have t1 : (x0 == x1) = false := by simpa using q1
      have e : sf = false := by rw [← hsf]; simp [q1]
      clear q1 hsf
      go_wp2_with fail
      go_meet
      exact ⟨by rw [e], rfl⟩
  obtain ⟨rfl, hwc⟩ := hcut
  rw [hwc]
  clear hwc hsf
  have c2 := HB9.out.cell 2 _ rfl
  have c5 := HB9.out.cell 5 _ rfl
  go_upto_region 6 with (go_at_call 10; refine (HB1.out _).mono ?_; rintro e w4 ⟨gf, rfl, hg4, hb4, hB4⟩; have HW4 : Hid (W3.heap.size ≤ gf ∧ Below W3.heap.size W3 w4 ∧ Buf w4 gf (frameI x0 x1 6 x3 (p : Int) 2 54 [])) := ⟨hg4, hb4, hB4⟩; clear hg4 hb4 hB4)
  have HB9' : Hid (Blk 28 w4 B9 [.int .u32 x0, .int .u32 x1, .int .u8 6, .int .u16 x3, .int .u16 (p : Int), .int .u8 2]) := HB9.out.below HW4.out.2.1 HB9.out.lt
  have HB10' : Hid (Blk 28 w4 (B9 + 1) [.int .u32 x1, .int .u32 x0, .int .u8 6, .int .u16 (p : Int), .int .u16 x3, .int .u8 18]) := HB10.out.below HW4.out.2.1 HB10.out.lt
  clear c0 c1 c2 c3 c4 c5
  have d0 := HB10'.out.cell 0 _ rfl
  have d1 := HB10'.out.cell 1 _ rfl
  have d2 := HB10'.out.cell 2 _ rfl
  have d3 := HB10'.out.cell 3 _ rfl
  have d4 := HB10'.out.cell 4 _ rfl
  have d5 := HB10'.out.cell 5 _ rfl
  go_upto_region 7 with (go_at_call 10; refine (HB2.out _).mono ?_; rintro e w5 ⟨gr, rfl, hg5, hb5, hB5⟩; have HW5 : Hid (w4.heap.size ≤ gr ∧ Below w4.heap.size w4 w5 ∧ Buf w5 gr (frameI x1 x0 6 (p : Int) x3 18 54 [])) := ⟨hg5, hb5, hB5⟩; clear hg5 hb5 hB5)
  have HB9w : Hid (Blk 28 w5 B9 [.int .u32 x0, .int .u32 x1, .int .u8 6, .int .u16 x3, .int .u16 (p : Int), .int .u8 2]) := HB9'.out.below HW5.out.2.1 HB9'.out.lt
  have hBf5 := HW4.out.2.2.below HW5.out.2.1 HW4.out.2.2.lt
  have HFf : Hid (Frm w5 gf _ (hSyn x0 x1 x3 (p : Int))) := frm_built HR.out.1 (by omega) hBf5
  have HFr : Hid (Frm w5 gr _ (hAns x0 x1 x3 (p : Int))) := frm_built HR.out.2.1 (by omega) HW5.out.2.2
  have HWW5 : Hid (Below w.heap.size w w5) := (HW3.out.trans (HW4.out.2.1.mono HW3.out.size)).trans (HW5.out.2.1.mono (Nat.le_trans HW3.out.size HW4.out.2.1.size))
  have hlt : B9 < w5.heap.size ∧ gf < w5.heap.size ∧ gr < w5.heap.size ∧ B9 ≠ gf ∧ B9 ≠ gr := by
    have a := HB9.out.lt; have b := HW4.out.1; have c := HW4.out.2.2.lt; have d := HW5.out.1; have e := HW5.out.2.2.lt; have f := HB9w.out.lt; have g := HW5.out.2.1.size; have h := HW4.out.2.1.size; omega
  have HLT : Hid (B9 < w5.heap.size ∧ gf < w5.heap.size ∧ gr < w5.heap.size ∧ B9 ≠ gf ∧ B9 ≠ gr) := hlt
  generalize ofL (frameI x0 x1 6 x3 (p : Int) 2 54 []) = df at HFf
  generalize ofL (frameI x1 x0 6 (p : Int) x3 18 54 []) = dr at HFr
  clear d0 d1 d2 d3 d4 d5 HB9' HB10' HB9 HB10 HB1 HB2 hBf5 HW3 hlt
  have HNW : Hid (Calls Tryz.prog 14 #[.int .i64 4] w5 _) := plNew_any 4 (by omega) (by omega) w5
  go_upto_region 10 with (go_at_call 14; refine HNW.out.mono ?_; rintro e w6 ⟨Q, K, O, rfl, hg6, hb6, ho6⟩; have HS6 : Hid (Spk w w5 w6 [B9, gf, gr] Q K none 4 0 [] 0) := Spk.start hg6 hb6 ho6 HWW5.out (by intro g hg; have z := HLT.out; simp at hg; omega); have HG6 : Hid (Below w5.heap.size w5 w6) := hb6; clear hg6 hb6 ho6)
  have k4 : w6.cell? ⟨B9, 4, none⟩ = some (.int .u16 (p : Int)) := cells_of (HS6.out.row (by simp)).2 (HB9w.out.cell 4 _ rfl)
  have HNM : Hid (Calls Tryz.prog 13 #[.int .i64 (p : Int)] w6 fun e w' => e = .returned (.string (ba (dec p))) ∧ Below w6.heap.size w6 w') := num_hid p (by omega) w6 w6 (Below.refl _ _)
  have HST : Hid (_ = ba (textS p)) := strS p
  have hsz : (ba (dec p)).size ≤ 10 := by have := dec_size p (by omega); omega
  have HLD : Hid (∀ W, Spk w w5 W [B9, gf, gr] Q K none 4 0 [] 0 → Calls Tryz.prog 16 #[.pointer (some ⟨Q, 0, none⟩), .string (ba (textS p))] W fun e w' => e = .returned (.tuple #[.int .i64 0, .int .i64 0]) ∧ Spk w w5 w' [B9, gf, gr] Q K (some (bkS p)) 4 0 [] 0) := fun W h => spk_load h HL.out.1 HL.out.2 (ba (textS p)) 0 (bkS p) (by rw [ba_size]; have := lenS hpb; unfold maxLen; omega) (readS hpb)
  generalize ba (textS p) = TS at HST HLD
  generalize ba (dec p) = SP at HST HNM hsz
  go_upto_region 11 with (go_at_call 13; refine HNM.out.mono ?_; rintro e w7 ⟨rfl, hb7⟩; have S7 : Hid (Spk w w5 w7 [B9, gf, gr] Q K none 4 0 [] 0) := HS6.out.below hb7; clear hb7)
  clear k4 HNM
  have HL7 : Hid (Calls _ _ _ w7 _) := HLD.out w7 S7.out
  go_upto_region 14 with (go_at_call 16; rw [HST.out]; refine HL7.out.mono ?_; rintro e w8 ⟨rfl, hs⟩; have S8 : Hid (Spk w w5 w8 [B9, gf, gr] Q K (some (bkS p)) 4 0 [] 0) := hs; clear hs)
  clear HLD HL7 HST hsz
  have HF1 : Hid (Calls Tryz.prog 15 #[.pointer (some ⟨Q, 0, none⟩), .int .u8 2, .slice (some ⟨gr, 0, none⟩) 54 54] w8 fun e w' => e = .returned (.int .u8 0) ∧ Spk w w5 w' [B9, gf, gr] Q K (some (bkS p)) 4 0 [] 1) := spk_tcp S8.out HL.out.1 (by omega) (HFr.out.of (S8.out.row (by simp)).2) (S8.out.row (by simp)).1 2 (by omega) 0 _ (step_none HFr.out.tcp HFr.out.cls HFr.out.hd (fresh_ans x0 x1 x3 (p : Int)) p 0 2)
  go_upto_region 15 with (go_at_call 15; refine HF1.out.mono ?_; rintro e w9 ⟨rfl, hs⟩; have S9 : Hid (Spk w w5 w9 [B9, gf, gr] Q K (some (bkS p)) 4 0 [] 1) := hs; clear hs)
  have HF2 : Hid (Calls Tryz.prog 15 #[.pointer (some ⟨Q, 0, none⟩), .int .u8 1, .slice (some ⟨gf, 0, none⟩) 54 54] w9 fun e w' => e = .returned (.int .u8 1) ∧ Spk w w5 w' [B9, gf, gr] Q K (some (bkS p)) 4 0 [⟨x0, x1, 6, x3, (p : Int), false, false, 30⟩] 2) := spk_tcp S9.out HL.out.1 (by omega) (HFf.out.of (S9.out.row (by simp)).2) (S9.out.row (by simp)).1 1 (by omega) 1 _ (step_syn x0 x1 x3 (p : Int) HFf.out.tcp HFf.out.cls HFf.out.hd p rfl)
  go_upto_region 16 with (go_at_call 15; refine HF2.out.mono ?_; rintro e w10 ⟨rfl, hs⟩; have S10 : Hid (Spk w w5 w10 [B9, gf, gr] Q K (some (bkS p)) 4 0 [⟨x0, x1, 6, x3, (p : Int), false, false, 30⟩] 2) := hs; clear hs)
  cases sf with
  | true =>
    have hs : x1 = x0 ∧ (p : Int) = x3 := by have z := of_decide_eq_true HSF.out; exact ⟨z.1.symm, z.2.symm⟩
    have HSE : Hid (x1 = x0 ∧ (p : Int) = x3) := hs
    clear hs
    obtain ⟨FX, hFX⟩ : ∃ FX, (evG (some (bkS p)) 4 0 [⟨x0, x1, 6, x3, (p : Int), false, false, 30⟩] dr 2).2 = FX := ⟨_, rfl⟩
    have HFX : Hid ((evG (some (bkS p)) 4 0 [⟨x0, x1, 6, x3, (p : Int), false, false, 30⟩] dr 2).2 = FX) := hFX
    clear hFX
    have HF3 : Hid (Calls Tryz.prog 15 #[.pointer (some ⟨Q, 0, none⟩), .int .u8 2, .slice (some ⟨gr, 0, none⟩) 54 54] w10 fun e w' => e = .returned (.int .u8 0) ∧ Spk w w5 w' [B9, gf, gr] Q K (some (bkS p)) 4 0 FX 3) := spk_tcp S10.out HL.out.1 (by omega) (HFr.out.of (S10.out.row (by simp)).2) (S10.out.row (by simp)).1 2 (by omega) 0 _ (⟨step_self x0 x1 x3 (p : Int) HFr.out.tcp HFr.out.cls HFr.out.hd p HSE.out, HFX.out⟩)
    go_wp2_with (go_at_call 15; refine HF3.out.mono ?_; rintro e w11 ⟨rfl, hs⟩; have S11 : Hid (Spk w w5 w11 [B9, gf, gr] Q K (some (bkS p)) 4 0 FX 3) := hs; clear hs)
    go_ret
    exact ⟨rfl, S11.out.base⟩
  | false =>
    have hs : ¬ (x1 = x0 ∧ (p : Int) = x3) := fun q => of_decide_eq_false HSF.out ⟨q.1.symm, q.2.symm⟩
    have HSE : Hid (¬ (x1 = x0 ∧ (p : Int) = x3)) := hs
    clear hs
    have HF3 : Hid (Calls Tryz.prog 15 #[.pointer (some ⟨Q, 0, none⟩), .int .u8 2, .slice (some ⟨gr, 0, none⟩) 54 54] w10 fun e w' => e = .returned (.int .u8 1) ∧ Spk w w5 w' [B9, gf, gr] Q K (some (bkS p)) 4 0 [⟨x0, x1, 6, x3, (p : Int), true, false, 0 + 300⟩] 3) := spk_tcp S10.out HL.out.1 (by omega) (HFr.out.of (S10.out.row (by simp)).2) (S10.out.row (by simp)).1 2 (by omega) 1 _ (step_ans x0 x1 x3 (p : Int) HFr.out.tcp HFr.out.cls HFr.out.hd p 0 false 30 (.inr HSE.out) (by omega))
    go_upto_region 21 with (go_at_call 15; refine HF3.out.mono ?_; rintro e w11 ⟨rfl, hs⟩; have S11 : Hid (Spk w w5 w11 [B9, gf, gr] Q K (some (bkS p)) 4 0 [⟨x0, x1, 6, x3, (p : Int), true, false, 0 + 300⟩] 3) := hs; clear hs)
    have ww : IntKind.u64.wrap (wt : Int) = (wt : Int) := by rw [IntKind.wrap_u64]; omega
    go_upto_region 22 with (go_at_call 12; refine (HP.out _).mono ?_; rintro e w12 ⟨rfl, hw⟩; obtain rfl : w11 = w12 := hw.symm)
    have p0 : plusT 0 wt = wt := by rw [plus_small (by omega) (by omega)]; omega
    by_cases hq : wt < 300
    · have t3 : (wt : Int) < 300 := by omega
      have HQ : Hid (wt < 300) := hq
      clear hq
      have HT1 : Hid (Calls Tryz.prog 17 #[.pointer (some ⟨Q, 0, none⟩), .int .u64 (wt : Int)] w11 fun e w' => e = .returned (.tuple #[]) ∧ Spk w w5 w' [B9, gf, gr] Q K (some (bkS p)) 4 wt [⟨x0, x1, 6, x3, (p : Int), true, false, 0 + 300⟩] 3) := by
        have z := spk_tick S11.out wt (by unfold topT; omega)
        rw [p0, alive_one, if_pos (show wt < 0 + 300 from by omega)] at z
        exact z
      go_upto_region 23 with (go_at_call 17; refine HT1.out.mono ?_; rintro e w13 ⟨rfl, hs⟩; have S13 : Hid (Spk w w5 w13 [B9, gf, gr] Q K (some (bkS p)) 4 wt [⟨x0, x1, 6, x3, (p : Int), true, false, 0 + 300⟩] 3) := hs; clear hs)
      clear p0
      have HF4 : Hid (Calls Tryz.prog 15 #[.pointer (some ⟨Q, 0, none⟩), .int .u8 2, .slice (some ⟨gr, 0, none⟩) 54 54] w13 fun e w' => e = .returned (.int .u8 1) ∧ Spk w w5 w' [B9, gf, gr] Q K (some (bkS p)) 4 wt [⟨x0, x1, 6, x3, (p : Int), true, false, wt + 300⟩] 4) := spk_tcp S13.out HL.out.1 (by omega) (HFr.out.of (S13.out.row (by simp)).2) (S13.out.row (by simp)).1 2 (by omega) 1 _ (step_ans x0 x1 x3 (p : Int) HFr.out.tcp HFr.out.cls HFr.out.hd p wt true (0 + 300) (.inl rfl) (by omega))
      go_upto_region 26 with (go_at_call 15; refine HF4.out.mono ?_; rintro e w14 ⟨rfl, hs⟩; have S14 : Hid (Spk w w5 w14 [B9, gf, gr] Q K (some (bkS p)) 4 wt [⟨x0, x1, 6, x3, (p : Int), true, false, wt + 300⟩] 4) := hs; clear hs)
      have HB9x : Hid (Blk 28 w14 B9 [.int .u32 x0, .int .u32 x1, .int .u8 6, .int .u16 x3, .int .u16 (p : Int), .int .u8 2]) := ⟨(S14.out.row (by simp)).2.trans HB9w.out.1, HB9w.out.2⟩
      have k5 := HB9x.out.cell 5 _ rfl
      have g5 := HB9x.out.frozen 5
      go_upto_region 27 with fail
      obtain ⟨W15, hW15⟩ : ∃ W15, w14.setCell ⟨B9, 5, none⟩ (.int .u8 17) = W15 := ⟨_, rfl⟩
      rw [hW15]
      have HBy : Hid (Blk 28 W15 B9 [.int .u32 x0, .int .u32 x1, .int .u8 6, .int .u16 x3, .int .u16 (p : Int), .int .u8 17]) := by rw [← hW15]; exact HB9x.out.set 5 (.int .u8 17)
      have S15 : Hid (Spk w w5 W15 [gr] Q K (some (bkS p)) 4 wt [⟨x0, x1, 6, x3, (p : Int), true, false, wt + 300⟩] 4) := S14.out.store (g0 := B9) (by simp) hw9 (by rw [← hW15]; exact Trn.setCell (S := fun x => x = B9) w14 B9 5 _ rfl) (by intro g hg; have z := HLT.out; simp at hg; subst hg; exact ⟨by simp, fun q => z.2.2.2.2 q.symm⟩)
      have HBD : Hid (Calls _ _ _ W15 _) := build_tcp x0 x1 x3 (p : Int) 17 HR.out.2.2 (by omega) W15
      clear k5 g5 hW15
      have e0 := HBy.out.cell 0 _ rfl
      have e1 := HBy.out.cell 1 _ rfl
      have e2 := HBy.out.cell 2 _ rfl
      have e3 := HBy.out.cell 3 _ rfl
      have e4 := HBy.out.cell 4 _ rfl
      have e5 := HBy.out.cell 5 _ rfl
      go_upto_region 30 with (go_at_call 10; refine HBD.out.mono ?_; rintro e w16 ⟨g2, rfl, hg16, hb16, hB16⟩; have S16 : Hid (Spk w w5 w16 [gr] Q K (some (bkS p)) 4 wt [⟨x0, x1, 6, x3, (p : Int), true, false, wt + 300⟩] 4) := S15.out.below hb16; have HF16 : Hid (Frm w16 g2 _ (hFin x0 x1 x3 (p : Int))) := frm_built HR.out.2.2 (by omega) hB16; have g2LT : Hid (g2 < w16.heap.size) := hB16.lt; clear hg16 hb16 hB16)
      clear e0 e1 e2 e3 e4 e5
      generalize ofL (frameI x0 x1 6 x3 (p : Int) 17 54 []) = d2 at HF16
      have HF5 : Hid (Calls Tryz.prog 15 #[.pointer (some ⟨Q, 0, none⟩), .int .u8 2, .slice (some ⟨g2, 0, none⟩) 54 54] w16 fun e w' => e = .returned (.int .u8 1) ∧ Spk w w5 w' [gr] Q K (some (bkS p)) 4 wt [⟨x0, x1, 6, x3, (p : Int), true, true, wt + 10⟩] 5) := spk_tcp S16.out HL.out.1 (by omega) HF16.out g2LT.out 2 (by omega) 1 _ (step_fin x0 x1 x3 (p : Int) HF16.out.tcp HF16.out.cls HF16.out.hd p wt (wt + 300) (by omega))
      go_upto_region 31 with (go_at_call 15; refine HF5.out.mono ?_; rintro e w17 ⟨rfl, hs⟩; have S17 : Hid (Spk w w5 w17 [gr] Q K (some (bkS p)) 4 wt [⟨x0, x1, 6, x3, (p : Int), true, true, wt + 10⟩] 5) := hs; clear hs)
      have HT2 : Hid (Calls Tryz.prog 17 #[.pointer (some ⟨Q, 0, none⟩), .int .u64 10] w17 fun e w' => e = .returned (.tuple #[]) ∧ Spk w w5 w' [gr] Q K (some (bkS p)) 4 (wt + 10) [] 5) := by
        have z := spk_tick S17.out 10 (by unfold topT; omega)
        rw [plus_small (by omega) (by omega), alive_one, if_neg (show ¬ wt + 10 < wt + 10 from by omega)] at z
        exact z
      go_upto_region 32 with (go_at_call 17; refine HT2.out.mono ?_; rintro e w18 ⟨rfl, hs⟩; have S18 : Hid (Spk w w5 w18 [gr] Q K (some (bkS p)) 4 (wt + 10) [] 5) := hs; clear hs)
      have HF6 : Hid (Calls Tryz.prog 15 #[.pointer (some ⟨Q, 0, none⟩), .int .u8 2, .slice (some ⟨gr, 0, none⟩) 54 54] w18 fun e w' => e = .returned (.int .u8 0) ∧ Spk w w5 w' [gr] Q K (some (bkS p)) 4 (wt + 10) [] 6) := spk_tcp S18.out HL.out.1 (by omega) (HFr.out.of (S18.out.row (by simp)).2) (S18.out.row (by simp)).1 2 (by omega) 0 _ (step_none HFr.out.tcp HFr.out.cls HFr.out.hd (fresh_ans x0 x1 x3 (p : Int)) p (wt + 10) 2)
      go_wp2_with (go_at_call 15; refine HF6.out.mono ?_; rintro e w19 ⟨rfl, hs⟩; have S19 : Hid (Spk w w5 w19 [gr] Q K (some (bkS p)) 4 (wt + 10) [] 6) := hs; clear hs)
      go_ret
      exact ⟨rfl, S19.out.base⟩
    · have t3 : ¬ ((wt : Int) < 300) := by omega
      have HQ : Hid (¬ wt < 300) := hq
      clear hq
      have HT1 : Hid (Calls Tryz.prog 17 #[.pointer (some ⟨Q, 0, none⟩), .int .u64 (wt : Int)] w11 fun e w' => e = .returned (.tuple #[]) ∧ Spk w w5 w' [B9, gf, gr] Q K (some (bkS p)) 4 wt [] 3) := by
        have z := spk_tick S11.out wt (by unfold topT; omega)
        rw [p0, alive_one, if_neg (show ¬ wt < 0 + 300 from by omega)] at z
        exact z
      go_upto_region 23 with (go_at_call 17; refine HT1.out.mono ?_; rintro e w13 ⟨rfl, hs⟩; have S13 : Hid (Spk w w5 w13 [B9, gf, gr] Q K (some (bkS p)) 4 wt [] 3) := hs; clear hs)
      clear p0
      have HF4 : Hid (Calls Tryz.prog 15 #[.pointer (some ⟨Q, 0, none⟩), .int .u8 2, .slice (some ⟨gr, 0, none⟩) 54 54] w13 fun e w' => e = .returned (.int .u8 0) ∧ Spk w w5 w' [B9, gf, gr] Q K (some (bkS p)) 4 wt [] 4) := spk_tcp S13.out HL.out.1 (by omega) (HFr.out.of (S13.out.row (by simp)).2) (S13.out.row (by simp)).1 2 (by omega) 0 _ (step_none HFr.out.tcp HFr.out.cls HFr.out.hd (fresh_ans x0 x1 x3 (p : Int)) p wt 2)
      go_upto_region 26 with (go_at_call 15; refine HF4.out.mono ?_; rintro e w14 ⟨rfl, hs⟩; have S14 : Hid (Spk w w5 w14 [B9, gf, gr] Q K (some (bkS p)) 4 wt [] 4) := hs; clear hs)
      have HB9x : Hid (Blk 28 w14 B9 [.int .u32 x0, .int .u32 x1, .int .u8 6, .int .u16 x3, .int .u16 (p : Int), .int .u8 2]) := ⟨(S14.out.row (by simp)).2.trans HB9w.out.1, HB9w.out.2⟩
      have k5 := HB9x.out.cell 5 _ rfl
      have g5 := HB9x.out.frozen 5
      go_upto_region 27 with fail
      obtain ⟨W15, hW15⟩ : ∃ W15, w14.setCell ⟨B9, 5, none⟩ (.int .u8 17) = W15 := ⟨_, rfl⟩
      rw [hW15]
      have HBy : Hid (Blk 28 W15 B9 [.int .u32 x0, .int .u32 x1, .int .u8 6, .int .u16 x3, .int .u16 (p : Int), .int .u8 17]) := by rw [← hW15]; exact HB9x.out.set 5 (.int .u8 17)
      have S15 : Hid (Spk w w5 W15 [gr] Q K (some (bkS p)) 4 wt [] 4) := S14.out.store (g0 := B9) (by simp) hw9 (by rw [← hW15]; exact Trn.setCell (S := fun x => x = B9) w14 B9 5 _ rfl) (by intro g hg; have z := HLT.out; simp at hg; subst hg; exact ⟨by simp, fun q => z.2.2.2.2 q.symm⟩)
      have HBD : Hid (Calls _ _ _ W15 _) := build_tcp x0 x1 x3 (p : Int) 17 HR.out.2.2 (by omega) W15
      clear k5 g5 hW15
      have e0 := HBy.out.cell 0 _ rfl
      have e1 := HBy.out.cell 1 _ rfl
      have e2 := HBy.out.cell 2 _ rfl
      have e3 := HBy.out.cell 3 _ rfl
      have e4 := HBy.out.cell 4 _ rfl
      have e5 := HBy.out.cell 5 _ rfl
      go_upto_region 30 with (go_at_call 10; refine HBD.out.mono ?_; rintro e w16 ⟨g2, rfl, hg16, hb16, hB16⟩; have S16 : Hid (Spk w w5 w16 [gr] Q K (some (bkS p)) 4 wt [] 4) := S15.out.below hb16; have HF16 : Hid (Frm w16 g2 _ (hFin x0 x1 x3 (p : Int))) := frm_built HR.out.2.2 (by omega) hB16; have g2LT : Hid (g2 < w16.heap.size) := hB16.lt; clear hg16 hb16 hB16)
      clear e0 e1 e2 e3 e4 e5
      generalize ofL (frameI x0 x1 6 x3 (p : Int) 17 54 []) = d2 at HF16
      have HF5 : Hid (Calls Tryz.prog 15 #[.pointer (some ⟨Q, 0, none⟩), .int .u8 2, .slice (some ⟨g2, 0, none⟩) 54 54] w16 fun e w' => e = .returned (.int .u8 0) ∧ Spk w w5 w' [gr] Q K (some (bkS p)) 4 wt [] 5) := spk_tcp S16.out HL.out.1 (by omega) HF16.out g2LT.out 2 (by omega) 0 _ (step_none HF16.out.tcp HF16.out.cls HF16.out.hd (fresh_fin x0 x1 x3 (p : Int)) p wt 2)
      go_upto_region 31 with (go_at_call 15; refine HF5.out.mono ?_; rintro e w17 ⟨rfl, hs⟩; have S17 : Hid (Spk w w5 w17 [gr] Q K (some (bkS p)) 4 wt [] 5) := hs; clear hs)
      have HT2 : Hid (Calls Tryz.prog 17 #[.pointer (some ⟨Q, 0, none⟩), .int .u64 10] w17 fun e w' => e = .returned (.tuple #[]) ∧ Spk w w5 w' [gr] Q K (some (bkS p)) 4 (wt + 10) [] 5) := by
        have z := spk_tick S17.out 10 (by unfold topT; omega)
        rw [plus_small (by omega) (by omega)] at z
        exact z
      go_upto_region 32 with (go_at_call 17; refine HT2.out.mono ?_; rintro e w18 ⟨rfl, hs⟩; have S18 : Hid (Spk w w5 w18 [gr] Q K (some (bkS p)) 4 (wt + 10) [] 5) := hs; clear hs)
      have HF6 : Hid (Calls Tryz.prog 15 #[.pointer (some ⟨Q, 0, none⟩), .int .u8 2, .slice (some ⟨gr, 0, none⟩) 54 54] w18 fun e w' => e = .returned (.int .u8 0) ∧ Spk w w5 w' [gr] Q K (some (bkS p)) 4 (wt + 10) [] 6) := spk_tcp S18.out HL.out.1 (by omega) (HFr.out.of (S18.out.row (by simp)).2) (S18.out.row (by simp)).1 2 (by omega) 0 _ (step_none HFr.out.tcp HFr.out.cls HFr.out.hd (fresh_ans x0 x1 x3 (p : Int)) p (wt + 10) 2)
      go_wp2_with (go_at_call 15; refine HF6.out.mono ?_; rintro e w19 ⟨rfl, hs⟩; have S19 : Hid (Spk w w5 w19 [gr] Q K (some (bkS p)) 4 (wt + 10) [] 6) := hs; clear hs)
      go_ret
      have z : decide ((wt : Int) < 300) = false := decide_eq_false (by have := HQ.out; omega)
      exact ⟨by show Ending.returned (.bool (!decide ((wt : Int) < 300))) = _; rw [z]; rfl, S19.out.base⟩
end Go.Proofs.YtclpnafiiobfhabGreatDoor

import Derived.Test.YtclpnafiiobfhabGreatDoorKRules
import Derived.Test.YtclpnafiiobfhabGreatDoorCNets
namespace Go.Proofs.YtclpnafiiobfhabGreatDoor
open Go.RowKit
set_option linter.unusedVariables false
set_option linter.unusedSimpArgs false

theorem holds_net {d : ByteArray} {a b sp dp : Int} (h : TcpFrame d a b sp dp) (ha : 0 ≤ a ∧ a ≤ 4294967295) (v n k : Nat) (m : Int × Int) (hk : k ≤ 32) : ruleB ⟨v, csN n k⟩ d m = decide (a.toNat / 2 ^ (32 - k) * 2 ^ (32 - k) = n) := by
  have e : ruleB ⟨v, csN n k⟩ d m = (holdsC 1 [n, k] d m && true) := rfl
  rw [e]
  unfold holdsC
  show (decide (30 ≤ d.size) && ((((numv d 26 4).toNat &&& maskOf k : Nat) : Int) == (n : Int)) && true) = _
  rw [h.src, h.size, mask_and _ _ (by omega) hk]
  generalize a.toNat / 2 ^ (32 - k) * 2 ^ (32 - k) = y
  by_cases q : y = n
  · subst q; simp
  · have q' : ¬ (y : Int) = n := by omega
    simp [q, q']
/-- the lines of Parted's texts -/
def lnTs (v p q : Nat) : List UInt8 := glue 32 [wV v, wProto, wTcp, wSport, dec p ++ 45 :: dec q]
def lnSt (v p q : Nat) : List UInt8 := glue 32 [wV v, wSport, dec p ++ 45 :: dec q, wProto, wTcp]
def lnFr (v n k : Nat) : List UInt8 := glue 32 [wV v, wFrom, netW n k]
theorem f10r (p q : Nat) : Free 10 (dec p ++ 45 :: dec q) := free_append (fd10 p) (free_cons (by decide) (fd10 q))
theorem f32r (p q : Nat) : Free 32 (dec p ++ 45 :: dec q) ∧ dec p ++ 45 :: dec q ≠ [] := ⟨free_append (dec_free p rfl) (free_cons (by decide) (dec_free q rfl)), by simp⟩
theorem f10n (n k : Nat) : Free 10 (netW n k) := free_append (fd10 n) (free_cons (by decide) (free_cons (by decide) (free_cons (by decide) (free_cons (by decide) (free_cons (by decide) (free_cons (by decide) (free_cons (by decide) (fd10 k))))))))
theorem f32n (n k : Nat) : Free 32 (netW n k) ∧ netW n k ≠ [] := ⟨free_append (dec_free n rfl) (free_cons (by decide) (free_cons (by decide) (free_cons (by decide) (free_cons (by decide) (free_cons (by decide) (free_cons (by decide) (free_cons (by decide) (dec_free k rfl)))))))), by simp [netW]⟩
theorem lnTs_f (p q : Nat) : Free 10 (lnTs 1 p q) := f10g (all_cons (fw10 (by decide)) (all_cons (fr10 rfl) (all_cons (fr10 rfl) (all_cons (fr10 rfl) (all_cons (f10r p q) all_nil)))))
theorem lnSt_f (p q : Nat) : Free 10 (lnSt 1 p q) := f10g (all_cons (fw10 (by decide)) (all_cons (fr10 rfl) (all_cons (f10r p q) (all_cons (fr10 rfl) (all_cons (fr10 rfl) all_nil)))))
theorem lnFr_f (n k : Nat) : Free 10 (lnFr 1 n k) := f10g (all_cons (fw10 (by decide)) (all_cons (fr10 rfl) (all_cons (f10n n k) all_nil)))
theorem ts_words (p q : Nat) : ∀ x ∈ [wV 1, wProto, wTcp, wSport, dec p ++ 45 :: dec q], Free 32 x ∧ x ≠ [] :=
  all_cons (P := fun x => Free 32 x ∧ x ≠ []) (fr (by decide)) (all_cons (frw rfl (by decide)) (all_cons (frw rfl (by decide)) (all_cons (frw rfl (by decide)) (all_cons (f32r p q) all_nil))))
theorem st_words (p q : Nat) : ∀ x ∈ [wV 1, wSport, dec p ++ 45 :: dec q, wProto, wTcp], Free 32 x ∧ x ≠ [] :=
  all_cons (P := fun x => Free 32 x ∧ x ≠ []) (fr (by decide)) (all_cons (frw rfl (by decide)) (all_cons (f32r p q) (all_cons (frw rfl (by decide)) (all_cons (frw rfl (by decide)) all_nil))))
theorem fr_words (n k : Nat) : ∀ x ∈ [wV 1, wFrom, netW n k], Free 32 x ∧ x ≠ [] :=
  all_cons (P := fun x => Free 32 x ∧ x ≠ []) (fr (by decide)) (all_cons (frw rfl (by decide)) (all_cons (f32n n k) all_nil))
theorem lnp_len {p q : Nat} (hp : p < 100000) (hq : q < 100000) : (lnTs 1 p q).length ≤ 40 ∧ (lnSt 1 p q).length ≤ 40 ∧ (lnFr 1 p q).length ≤ 40 := by
  have h1 := wV_len (v := 1) (by decide)
  have h2 := dec_len p hp
  have h3 := dec_len q hq
  simp only [lnTs, lnSt, lnFr, netW, glue, List.length_append, List.length_cons, wFrom, wProto, wTcp, wSport, List.length_nil]
  omega
def textW (lo hi : Nat) : List UInt8 := glue 10 [lnPol 0, lnTs 1 lo hi]
def textP (lo mid mi hi : Nat) : List UInt8 := glue 10 [lnPol 0, lnTs 1 lo mid, lnSt 1 mi hi]
def textN (n : Nat) : List UInt8 := glue 10 [lnPol 0, lnFr 1 n 7]
def textH (n m : Nat) : List UInt8 := glue 10 [lnPol 0, lnFr 1 n 8, lnFr 1 m 8]
theorem pol_step (l : List ByteArray) : linesOf (ba (lnPol 0) :: l) 0 bk0 = linesOf l 1 ⟨true, 0, []⟩ :=
  lines_step (p := wPolicy) (q := [wV 0]) (all_cons (P := fun x => Free 32 x ∧ x ≠ []) (frw rfl (by decide)) (all_cons (fr (by decide)) all_nil)) (line_pol (by decide))
theorem two_len {p q : List UInt8} (hp : p.length ≤ 40) (hq : q.length ≤ 40) : (glue 10 [p, q]).length ≤ 2000 :=
  Nat.le_trans (glue10_len _ (all_cons (by omega) (all_cons (by omega) all_nil))) (by decide : 101 * 2 ≤ 2000)
theorem three_len {p q r : List UInt8} (hp : p.length ≤ 40) (hq : q.length ≤ 40) (hr : r.length ≤ 40) : (glue 10 [p, q, r]).length ≤ 2000 :=
  Nat.le_trans (glue10_len _ (all_cons (by omega) (all_cons (by omega) (all_cons (by omega) all_nil)))) (by decide : 101 * 3 ≤ 2000)
theorem pol_len : (lnPol 0).length ≤ 40 := (ln_len (x := 0) (p := 0) (by decide) (by decide)).1
theorem lenW {lo hi : Nat} (h1 : lo ≤ 65535) (h2 : hi ≤ 65535) : (textW lo hi).length ≤ 2000 := two_len pol_len (lnp_len (by omega) (by omega)).1
theorem lenP {lo mid mi hi : Nat} (h1 : lo ≤ 65535) (h2 : mid ≤ 65535) (h3 : mi ≤ 65535) (h4 : hi ≤ 65535) : (textP lo mid mi hi).length ≤ 2000 := three_len pol_len (lnp_len (by omega) (by omega)).1 (lnp_len (by omega) (by omega)).2.1
theorem lenN {n : Nat} (h1 : n ≤ 255) : (textN n).length ≤ 2000 := two_len pol_len (lnp_len (by omega) (by omega)).2.2
theorem lenH {n m : Nat} (h1 : n ≤ 255) (h2 : m ≤ 255) : (textH n m).length ≤ 2000 := three_len pol_len (lnp_len (by omega) (by omega)).2.2 (lnp_len (by omega) (by omega)).2.2
theorem readW {lo hi : Nat} (h : lo ≤ hi) (h2 : hi ≤ 65535) : readT (ba (textW lo hi)) = (0, 0, ⟨true, 0, [⟨1, csS lo hi⟩]⟩) := by
  refine read_lines _ _ (all_cons (lnPol_f (by decide)) (all_cons (lnTs_f lo hi) all_nil)) (lenW (by omega) h2) ?_
  refine (pol_step [ba (lnTs 1 lo hi)]).trans ?_
  refine (lines_step (p := wV 1) (q := [wProto, wTcp, wSport, dec lo ++ 45 :: dec hi]) (ts_words lo hi) (line_tcp_sport (b := ⟨true, 0, []⟩) rfl (by simp) (by decide) h h2)).trans ?_
  exact lines_end _ rfl
theorem readP {lo mid mi hi : Nat} (h : lo ≤ mid) (h2 : mid ≤ 65535) (h3 : mi ≤ hi) (h4 : hi ≤ 65535) : readT (ba (textP lo mid mi hi)) = (0, 0, ⟨true, 0, [⟨1, csS lo mid⟩, ⟨1, csS mi hi⟩]⟩) := by
  refine read_lines _ _ (all_cons (lnPol_f (by decide)) (all_cons (lnTs_f lo mid) (all_cons (lnSt_f mi hi) all_nil))) (lenP (by omega) h2 (by omega) h4) ?_
  refine (pol_step [ba (lnTs 1 lo mid), ba (lnSt 1 mi hi)]).trans ?_
  refine (lines_step (p := wV 1) (q := [wProto, wTcp, wSport, dec lo ++ 45 :: dec mid]) (ts_words lo mid) (line_tcp_sport (b := ⟨true, 0, []⟩) rfl (by simp) (by decide) h h2)).trans ?_
  refine (lines_step (p := wV 1) (q := [wSport, dec mi ++ 45 :: dec hi, wProto, wTcp]) (st_words mi hi) (line_sport_tcp (b := ⟨true, 0, [⟨1, csS lo mid⟩]⟩) rfl (by simp) (by decide) h3 h4)).trans ?_
  exact lines_end _ rfl
theorem readN {n : Nat} (h : n ≤ 255) (he : n % 2 = 0) : readT (ba (textN n)) = (0, 0, ⟨true, 0, [⟨1, csN (n * 16777216) 7⟩]⟩) := by
  refine read_lines _ _ (all_cons (lnPol_f (by decide)) (all_cons (lnFr_f n 7) all_nil)) (lenN h) ?_
  refine (pol_step [ba (lnFr 1 n 7)]).trans ?_
  refine (lines_step (p := wV 1) (q := [wFrom, netW n 7]) (fr_words n 7) (line_from (b := ⟨true, 0, []⟩) rfl (by simp) (by decide) h (by decide) (show n * 16777216 % 33554432 = 0 by omega))).trans ?_
  exact lines_end _ rfl
theorem readH {n m : Nat} (h : n ≤ 255) (h2 : m ≤ 255) : readT (ba (textH n m)) = (0, 0, ⟨true, 0, [⟨1, csN (n * 16777216) 8⟩, ⟨1, csN (m * 16777216) 8⟩]⟩) := by
  refine read_lines _ _ (all_cons (lnPol_f (by decide)) (all_cons (lnFr_f n 8) (all_cons (lnFr_f m 8) all_nil))) (lenH h h2) ?_
  refine (pol_step [ba (lnFr 1 n 8), ba (lnFr 1 m 8)]).trans ?_
  refine (lines_step (p := wV 1) (q := [wFrom, netW n 8]) (fr_words n 8) (line_from (b := ⟨true, 0, []⟩) rfl (by simp) (by decide) h (by decide) (show n * 16777216 % 16777216 = 0 by omega))).trans ?_
  refine (lines_step (p := wV 1) (q := [wFrom, netW m 8]) (fr_words m 8) (line_from (b := ⟨true, 0, [⟨1, csN (n * 16777216) 8⟩]⟩) rfl (by simp) (by decide) h2 (by decide) (show m * 16777216 % 16777216 = 0 by omega))).trans ?_
  exact lines_end _ rfl
/-- what the rules of Parted's texts say -/
theorem verdW {d : ByteArray} {a b sp dp : Int} (h : TcpFrame d a b sp dp) (lo hi : Nat) (m : Int × Int) : verdB 0 d m [⟨1, csS lo hi⟩] = if (lo : Int) ≤ sp ∧ sp ≤ hi then 1 else 0 := by
  simp only [verdB, holds_sport h, decide_eq_true_eq]
theorem verdP {d : ByteArray} {a b sp dp : Int} (h : TcpFrame d a b sp dp) (lo mid hi : Nat) (m : Int × Int) (h1 : lo ≤ mid) (h2 : mid + 1 ≤ hi) : verdB 0 d m [⟨1, csS lo mid⟩, ⟨1, csS (mid + 1) hi⟩] = if (lo : Int) ≤ sp ∧ sp ≤ hi then 1 else 0 := by
  simp only [verdB, holds_sport h, decide_eq_true_eq]
  by_cases q : (lo : Int) ≤ sp ∧ sp ≤ hi
  · rw [if_pos q]
    by_cases q1 : (lo : Int) ≤ sp ∧ sp ≤ mid
    · rw [if_pos q1]
    · rw [if_neg q1, if_pos (by omega)]
  · rw [if_neg q, if_neg (by omega), if_neg (by omega)]
theorem verdN {d : ByteArray} {a b sp dp : Int} (h : TcpFrame d a b sp dp) (ha : 0 ≤ a ∧ a ≤ 4294967295) (n : Nat) (m : Int × Int) (hn : n = a.toNat / 33554432 * 2) : verdB 0 d m [⟨1, csN (n * 16777216) 7⟩] = 1 := by
  simp only [verdB, holds_net h ha 1 _ 7 m (by decide), decide_eq_true_eq]
  rw [if_pos (show a.toNat / 33554432 * 33554432 = n * 16777216 by omega)]
theorem verdH {d : ByteArray} {a b sp dp : Int} (h : TcpFrame d a b sp dp) (ha : 0 ≤ a ∧ a ≤ 4294967295) (n : Nat) (m : Int × Int) (hn : n = a.toNat / 33554432 * 2) : verdB 0 d m [⟨1, csN (n * 16777216) 8⟩, ⟨1, csN ((n + 1) * 16777216) 8⟩] = 1 := by
  simp only [verdB, holds_net h ha 1 _ 8 m (by decide), decide_eq_true_eq]
  by_cases q : a.toNat / 2 ^ (32 - 8) * 2 ^ (32 - 8) = n * 16777216
  · rw [if_pos q]
  · rw [if_neg q, if_pos]
    have q' : ¬ a.toNat / 16777216 * 16777216 = n * 16777216 := q
    show a.toNat / 16777216 * 16777216 = (n + 1) * 16777216
    omega
end Go.Proofs.YtclpnafiiobfhabGreatDoor

import Derived.Test.YtclpnafiiobfhabGreatDoorGSwapS
import Derived.Test.YtclpnafiiobfhabGreatDoorGSwapN
import Derived.Test.YtclpnafiiobfhabGreatDoorGAhead
import Derived.Deep.AppendLies
import Derived.Deep.RegionLaw
namespace Go.Proofs.YtclpnafiiobfhabGreatDoor
open Go.RowKit
set_option linter.unusedVariables false
set_option linter.unusedSimpArgs false

theorem swap_any {T mb g n cap room births : Nat} {f : Nat → En} (w : World) (h : TabAt w T mb (.slice (some ⟨g, 0, none⟩) n cap) room births n f) (i j : Nat) (hi : i < n) (hj : j < n) :
    Calls Tryz.prog 108 #[.pointer (some ⟨T, 0, none⟩), .int .i64 (i : Int), .int .i64 (j : Int)] w fun e w' => e = .returned (.tuple #[]) ∧ TabAt w' T mb (.slice (some ⟨g, 0, none⟩) n cap) room births n (Hp.swp f i j) ∧ Trn (Ows T mb (.slice (some ⟨g, 0, none⟩) n cap)) w w' := by
  by_cases e : i = j
  · subst e
    exact swap_same T mb g n cap room births i f _ _ _ _ _ _ _ _ _ _ _ _ _ _ w h hi rfl
  · exact swap_ne T mb g n cap room births i j f _ _ _ _ _ _ _ _ _ _ _ _ _ _ _ _ _ _ _ _ _ _ _ _ _ _ _ _ w h hi rfl hj e rfl
end Go.Proofs.YtclpnafiiobfhabGreatDoor
namespace Go.Proofs.YtclpnafiiobfhabGreatDoor
open Go.RowKit
set_option linter.unusedVariables false
set_option linter.unusedSimpArgs false

theorem ahead_any {T mb g n cap room births : Nat} {f : Nat → En} (w : World) (h : TabAt w T mb (.slice (some ⟨g, 0, none⟩) n cap) room births n f) (i j : Nat) (hi : i < n) (hj : j < n) :
    Calls Tryz.prog 129 #[.pointer (some ⟨T, 0, none⟩), .int .i64 (i : Int), .int .i64 (j : Int)] w fun e w' => e = .returned (.bool (decide (rkE (f i) < rkE (f j)))) ∧ Below w.heap.size w w' := by
  have hT3 := h.blk.cell 3 _ rfl
  have hE := h.ents
  have X : ∀ k v, (f i).l[k]? = some v → w.cell? ⟨g, i * 14 + k, none⟩ = some v := fun k v hv => hE.cell hi k v hv
  have Y : ∀ k v, (f j).l[k]? = some v → w.cell? ⟨g, j * 14 + k, none⟩ = some v := fun k v hv => hE.cell hj k v hv
  refine (ahead_cells T g n cap i j _ _ _ _ _ _ _ _ _ _ _ _ _ _ _ _ _ _ _ _ _ _ _ _ _ _ _ _ w hT3 hi hj (X 0 _ rfl) (X 1 _ rfl) (X 2 _ rfl) (X 3 _ rfl) (X 4 _ rfl) (X 5 _ rfl) (X 6 _ rfl) (X 7 _ rfl) (X 8 _ rfl) (X 9 _ rfl) (X 10 _ rfl) (X 11 _ rfl) (X 12 _ rfl) (X 13 _ rfl) (Y 0 _ rfl) (Y 1 _ rfl) (Y 2 _ rfl) (Y 3 _ rfl) (Y 4 _ rfl) (Y 5 _ rfl) (Y 6 _ rfl) (Y 7 _ rfl) (Y 8 _ rfl) (Y 9 _ rfl) (Y 10 _ rfl) (Y 11 _ rfl) (Y 12 _ rfl) (Y 13 _ rfl)).mono ?_
  rintro e w' ⟨he, hb⟩
  refine ⟨he.trans ?_, hb⟩
  congr 2
  have q := rkE_lt (x := f i) (y := f j) (h.ns i hi) (h.ns j hj)
  by_cases e1 : ((f i).v.u : Int) = ((f j).v.u : Int)
  · rw [if_pos e1]
    exact decide_eq_decide.2 (by rw [q]; omega)
  · rw [if_neg e1]
    exact decide_eq_decide.2 (by rw [q]; omega)
set_option maxHeartbeats 3200000 in
theorem rise_any {T mb g n cap room births : Nat} {f : Nat → En} (w : World) (h : TabAt w T mb (.slice (some ⟨g, 0, none⟩) n cap) room births n f) (k a : Nat) (hk : a ≤ k) (ha : a < n) :
    Calls Tryz.prog 127 #[.pointer (some ⟨T, 0, none⟩), .int .i64 (a : Int)] w fun e w' => e = .returned (.tuple #[]) ∧ TabAt w' T mb (.slice (some ⟨g, 0, none⟩) n cap) room births n (Hp.rise rkE k f a) ∧ Trn (Ows T mb (.slice (some ⟨g, 0, none⟩) n cap)) w w' := by
  obtain ⟨F, hF⟩ : ∃ F, Hp.rise rkE k f a = F := ⟨_, rfl⟩
  rw [hF]
  have hn : n ≤ 64 := Nat.le_trans h.le h.big
  have HT : Hid (TabAt w T mb (.slice (some ⟨g, 0, none⟩) n cap) room births n f) := h
  have HF : Hid (Hp.rise rkE k f a = F) := hF
  clear h hF
  go_enter Tryz.func127, Tryz.ntmps127
  go_wp2_with fail
  go_loopg [1] k (fun r s1 wx => ∃ (x : Nat) (f' : Nat → En), x ≤ r ∧ x < n ∧ s1 = .int .i64 (x : Int) ∧ Hid (TabAt wx T mb (.slice (some ⟨g, 0, none⟩) n cap) room births n f') ∧ Hid (Hp.rise rkE r f' x = F) ∧ Hid (Trn (Ows T mb (.slice (some ⟨g, 0, none⟩) n cap)) w wx))
  case atStart => exact ⟨a, f, hk, ha, rfl, HT, HF, Trn.refl _ _⟩
  case round =>
    obtain ⟨x, f', hxr, hxn, rfl, H1, H2, H3⟩ := hrel
    cases x with
    | zero =>
      go_wp2_with fail
      go_end0
      refine ⟨rfl, H1.out.congr ?_, H3.out⟩
      rw [← H2.out]
      cases gk <;> simp [Hp.rise]
    | succ x =>
      obtain ⟨r, rfl⟩ : ∃ r, gk = r + 1 := ⟨gk - 1, by omega⟩
      have HC : Hid (∀ X P : Int, X = ((x + 1 : Nat) : Int) → P = ((x / 2 : Nat) : Int) → Calls Tryz.prog 129 #[.pointer (some ⟨T, 0, none⟩), .int .i64 X, .int .i64 P] wr fun e w' => e = .returned (.bool (decide (rkE (f' (x + 1)) < rkE (f' (x / 2))))) ∧ TabAt w' T mb (.slice (some ⟨g, 0, none⟩) n cap) room births n f' ∧ Below wr.heap.size wr w') := fun X P hX hP => by
        subst hX hP
        exact (ahead_any wr H1.out (x + 1) (x / 2) hxn (by omega)).mono (fun e w' q => ⟨q.1, H1.out.below q.2, q.2⟩)
      have hrise : Hp.rise rkE (r + 1) f' (x + 1) = if rkE (f' (x + 1)) < rkE (f' (x / 2)) then Hp.rise rkE r (Hp.swp f' (x + 1) (x / 2)) (x / 2) else f' := by
        rw [Hp.rise, if_neg (by omega), Nat.add_sub_cancel]
      have H4 : Hid (F = if rkE (f' (x + 1)) < rkE (f' (x / 2)) then Hp.rise rkE r (Hp.swp f' (x + 1) (x / 2)) (x / 2) else f') := H2.out.symm.trans hrise
      clear H2 hrise
      by_cases ht : rkE (f' (x + 1)) < rkE (f' (x / 2))
      · rw [if_pos ht] at H4
        rw [decide_eq_true ht] at HC
        clear ht
        go_wp2_with (first | (go_at_call 129; refine (HC.out _ _ (by omega) (by omega)).mono ?_; rintro e w2 ⟨rfl, h2, hb2⟩; have HC2 : Hid (∀ X P : Int, X = ((x + 1 : Nat) : Int) → P = ((x / 2 : Nat) : Int) → Calls Tryz.prog 108 #[.pointer (some ⟨T, 0, none⟩), .int .i64 X, .int .i64 P] w2 fun e w' => e = .returned (.tuple #[]) ∧ TabAt w' T mb (.slice (some ⟨g, 0, none⟩) n cap) room births n (Hp.swp f' (x + 1) (x / 2)) ∧ Trn (Ows T mb (.slice (some ⟨g, 0, none⟩) n cap)) w2 w') := (fun X P hX hP => (by subst hX hP; exact swap_any w2 h2 (x + 1) (x / 2) hxn (by omega))); have HB2 : Hid (Below wr.heap.size wr w2) := hb2; clear h2 hb2) | (go_at_call 108; refine (HC2.out _ _ (by omega) (by omega)).mono ?_; rintro e w3 ⟨rfl, h3, ht3⟩; have HT3 : Hid (TabAt w3 T mb (.slice (some ⟨g, 0, none⟩) n cap) room births n (Hp.swp f' (x + 1) (x / 2))) := h3; have HR3 : Hid (Trn (Ows T mb (.slice (some ⟨g, 0, none⟩) n cap)) w2 w3) := ht3; clear h3 ht3))
        go_roundg r
        case measure => omega
        case rel => exact ⟨x / 2, _, by omega, by omega, by first | rfl | (congr 1; omega), HT3, H4.out.symm, (H3.out.trans (Trn.below HB2.out) (fun _ _ q => q)).trans HR3.out (fun _ _ q => q)⟩
      · rw [if_neg ht] at H4
        rw [decide_eq_false ht] at HC
        clear ht
        go_wp2_with (go_at_call 129; refine (HC.out _ _ (by omega) (by omega)).mono ?_; rintro e w2 ⟨rfl, h2, hb2⟩; have HT2 : Hid (TabAt w2 T mb (.slice (some ⟨g, 0, none⟩) n cap) room births n f') := h2; have HB2 : Hid (Below wr.heap.size wr w2) := hb2; clear h2 hb2)
        refine bodyPost_ret (v := .tuple #[]) (results_none rfl _ _ _) rfl ?_
        exact ⟨rfl, HT2.out.congr H4.out.symm, H3.out.trans (Trn.below HB2.out) (fun _ _ q => q)⟩
end Go.Proofs.YtclpnafiiobfhabGreatDoor
namespace Go.Proofs.YtclpnafiiobfhabGreatDoor
open Go.RowKit
set_option linter.unusedVariables false
set_option linter.unusedSimpArgs false

/-- the least so far, behind d of the two children -/
def lst (n : Nat) (f : Nat → En) (a : Nat) : Nat → Nat
  | 0 => a
  | d + 1 => if 2 * a + 1 + d < n ∧ rkE (f (2 * a + 1 + d)) < rkE (f (lst n f a d)) then 2 * a + 1 + d else lst n f a d
theorem lst_two (n : Nat) (f : Nat → En) (a : Nat) : lst n f a 2 = Hp.least rkE n f a := rfl
theorem lst_lt {n : Nat} {f : Nat → En} {a : Nat} (ha : a < n) : ∀ d, lst n f a d < n
  | 0 => ha
  | d + 1 => by unfold lst; split
                · rename_i q; exact q.1
                · exact lst_lt ha d
theorem lst_out {n : Nat} {f : Nat → En} {a d : Nat} (hd : d ≤ 2) (h : n ≤ 2 * a + 1 + d) : lst n f a d = Hp.least rkE n f a := by
  rw [← lst_two]
  have s : ∀ e, n ≤ 2 * a + 1 + e → lst n f a (e + 1) = lst n f a e := fun e he => by rw [lst, if_neg (by omega)]
  have : d = 0 ∨ d = 1 ∨ d = 2 := by omega
  rcases this with rfl | rfl | rfl
  · rw [s 1 (by omega), s 0 (by omega)]
  · rw [s 1 (by omega)]
  · rfl
set_option maxHeartbeats 3200000 in
theorem sink_any {T mb g n cap room births : Nat} {f : Nat → En} (w : World) (h : TabAt w T mb (.slice (some ⟨g, 0, none⟩) n cap) room births n f) (k a : Nat) (hk : n ≤ k + a) (ha : a < n) :
    Calls Tryz.prog 109 #[.pointer (some ⟨T, 0, none⟩), .int .i64 (a : Int)] w fun e w' => e = .returned (.tuple #[]) ∧ TabAt w' T mb (.slice (some ⟨g, 0, none⟩) n cap) room births n (Hp.sink rkE n k f a) ∧ Trn (Ows T mb (.slice (some ⟨g, 0, none⟩) n cap)) w w' := by
  obtain ⟨F, hF⟩ : ∃ F, Hp.sink rkE n k f a = F := ⟨_, rfl⟩
  rw [hF]
  have hn : n ≤ 64 := Nat.le_trans h.le h.big
  have HT : Hid (TabAt w T mb (.slice (some ⟨g, 0, none⟩) n cap) room births n f) := h
  have HF : Hid (Hp.sink rkE n k f a = F) := hF
  clear h hF
  go_enter Tryz.func109, Tryz.ntmps109
  go_wp2_with fail
  go_loopg [1] k (fun r s1 wx => ∃ (x : Nat) (f' : Nat → En), n ≤ r + x ∧ x < n ∧ s1 = .int .i64 (x : Int) ∧ Hid (TabAt wx T mb (.slice (some ⟨g, 0, none⟩) n cap) room births n f') ∧ Hid (Hp.sink rkE n r f' x = F) ∧ Hid (Trn (Ows T mb (.slice (some ⟨g, 0, none⟩) n cap)) w wx))
  case atStart => exact ⟨a, f, hk, ha, rfl, HT, HF, Trn.refl _ _⟩
  case round =>
    obtain ⟨x, f', hxr, hxn, rfl, H1, H2, H3⟩ := hrel
    obtain ⟨r, rfl⟩ : ∃ r, gk = r + 1 := ⟨gk - 1, by omega⟩
    have H4 : Hid (F = if Hp.least rkE n f' x = x then f' else Hp.sink rkE n r (Hp.swp f' x (Hp.least rkE n f' x)) (Hp.least rkE n f' x)) := H2.out.symm.trans rfl
    have HL := Hp.least_cases rkE n f' x
    have HLl : Hp.least rkE n f' x < n := by omega
    clear H2
    go_wp2_with fail
    go_loopg [4, 5] 2 (fun q s4 s5 wx => ∃ d : Nat, d + q = 2 ∧ s5 = .int .i64 ((2 * x + 1 + d : Nat) : Int) ∧ s4 = .int .i64 ((lst n f' x d : Nat) : Int) ∧ Hid (TabAt wx T mb (.slice (some ⟨g, 0, none⟩) n cap) room births n f') ∧ Hid (Trn (Ows T mb (.slice (some ⟨g, 0, none⟩) n cap)) w wx))
    case atStart => exact ⟨0, rfl, by first | rfl | (congr 1; omega), by first | rfl | (congr 1; omega), H1, H3⟩
    case round =>
      obtain ⟨d, hdq, rfl, rfl, G1, G3⟩ := hrel
      have hT3 := G1.out.blk.cell 3 _ rfl
      obtain ⟨l, hl⟩ : ∃ l, lst n f' x d = l := ⟨_, rfl⟩
      obtain ⟨c, hc⟩ : ∃ c, 2 * x + 1 + d = c := ⟨_, rfl⟩
      have hln : l < n := by rw [← hl]; exact lst_lt hxn d
      have HLD : Hid (lst n f' x d = l) := hl
      have HCD : Hid (2 * x + 1 + d = c) := hc
      rw [hl, hc]
      by_cases hout : gk = 0 ∨ n ≤ c
      · have HLE : Hid (l = Hp.least rkE n f' x) := by
          rcases hout with q | q
          · have : d = 2 := by omega
            subst this; exact hl.symm
          · exact hl.symm.trans (lst_out (by omega) (by omega))
        by_cases hz : gk = 0
        · have t1 : ¬ ((c : Int) ≤ 2 * (x : Int) + 2) := by omega
          clear hl hc hout
          by_cases hq : Hp.least rkE n f' x = x
          · rw [if_pos hq] at H4
            have HQ : Hid (Hp.least rkE n f' x = x) := hq
            have hqb : ((l : Int) == (x : Int)) = true := by rw [HLE.out, hq]; simp
            clear hq HL HLl
            go_wp2_with fail
            refine bodyPost_ret (v := .tuple #[]) (results_none rfl _ _ _) rfl ?_
            exact ⟨rfl, G1.out.congr H4.out.symm, G3.out⟩
          · rw [if_neg hq] at H4
            have hqb : ((l : Int) == (x : Int)) = false := by rw [HLE.out]; simp; omega
            have HC2 : Hid (∀ X P : Int, X = ((x : Nat) : Int) → P = ((l : Nat) : Int) → Calls Tryz.prog 108 #[.pointer (some ⟨T, 0, none⟩), .int .i64 X, .int .i64 P] wr fun e w' => e = .returned (.tuple #[]) ∧ TabAt w' T mb (.slice (some ⟨g, 0, none⟩) n cap) room births n (Hp.swp f' x l) ∧ Trn (Ows T mb (.slice (some ⟨g, 0, none⟩) n cap)) wr w') := fun X P hX hP => by subst hX hP; exact swap_any wr G1.out x l hxn hln
            have hll : n ≤ r + l := by rw [HLE.out]; omega
            clear hq HL HLl
            go_wp2_with (go_at_call 108; refine (HC2.out _ _ (by omega) (by omega)).mono ?_; rintro e w3 ⟨rfl, h3, ht3⟩; have HT3 : Hid (TabAt w3 T mb (.slice (some ⟨g, 0, none⟩) n cap) room births n (Hp.swp f' x l)) := h3; have HR3 : Hid (Trn (Ows T mb (.slice (some ⟨g, 0, none⟩) n cap)) wr w3) := ht3; clear h3 ht3)
            go_roundg r
            case measure => omega
            case rel => exact ⟨l, _, hll, hln, by first | rfl | (congr 1; omega), HT3, (by rw [HLE.out]; exact H4.out.symm), G3.out.trans HR3.out (fun _ _ q => q)⟩

        · have t1 : (c : Int) ≤ 2 * (x : Int) + 2 := by omega
          have t2 : ¬ ((c : Int) < (n : Int)) := by omega
          clear hl hc hout
          by_cases hq : Hp.least rkE n f' x = x
          · rw [if_pos hq] at H4
            have HQ : Hid (Hp.least rkE n f' x = x) := hq
            have hqb : ((l : Int) == (x : Int)) = true := by rw [HLE.out, hq]; simp
            clear hq HL HLl
            go_wp2_with fail
            refine bodyPost_ret (v := .tuple #[]) (results_none rfl _ _ _) rfl ?_
            exact ⟨rfl, G1.out.congr H4.out.symm, G3.out⟩
          · rw [if_neg hq] at H4
            have hqb : ((l : Int) == (x : Int)) = false := by rw [HLE.out]; simp; omega
            have HC2 : Hid (∀ X P : Int, X = ((x : Nat) : Int) → P = ((l : Nat) : Int) → Calls Tryz.prog 108 #[.pointer (some ⟨T, 0, none⟩), .int .i64 X, .int .i64 P] wr fun e w' => e = .returned (.tuple #[]) ∧ TabAt w' T mb (.slice (some ⟨g, 0, none⟩) n cap) room births n (Hp.swp f' x l) ∧ Trn (Ows T mb (.slice (some ⟨g, 0, none⟩) n cap)) wr w') := fun X P hX hP => by subst hX hP; exact swap_any wr G1.out x l hxn hln
            have hll : n ≤ r + l := by rw [HLE.out]; omega
            clear hq HL HLl
            go_wp2_with (go_at_call 108; refine (HC2.out _ _ (by omega) (by omega)).mono ?_; rintro e w3 ⟨rfl, h3, ht3⟩; have HT3 : Hid (TabAt w3 T mb (.slice (some ⟨g, 0, none⟩) n cap) room births n (Hp.swp f' x l)) := h3; have HR3 : Hid (Trn (Ows T mb (.slice (some ⟨g, 0, none⟩) n cap)) wr w3) := ht3; clear h3 ht3)
            go_roundg r
            case measure => omega
            case rel => exact ⟨l, _, hll, hln, by first | rfl | (congr 1; omega), HT3, (by rw [HLE.out]; exact H4.out.symm), G3.out.trans HR3.out (fun _ _ q => q)⟩

      · obtain ⟨q, rfl⟩ : ∃ q, gk = q + 1 := ⟨gk - 1, by omega⟩
        have t1 : (c : Int) ≤ 2 * (x : Int) + 2 := by omega
        have t2 : (c : Int) < (n : Int) := by omega
        have hcn : c < n := by omega
        have HNX : Hid (lst n f' x (d + 1) = if rkE (f' c) < rkE (f' l) then c else l) := by
          show lst n f' x (d + 1) = _
          rw [lst, hl, hc]
          by_cases q : rkE (f' c) < rkE (f' l)
          · rw [if_pos ⟨hcn, q⟩, if_pos q]
          · rw [if_neg (fun z => q z.2), if_neg q]
        have HC : Hid (∀ X P : Int, X = ((c : Nat) : Int) → P = ((l : Nat) : Int) → Calls Tryz.prog 129 #[.pointer (some ⟨T, 0, none⟩), .int .i64 X, .int .i64 P] wr fun e w' => e = .returned (.bool (decide (rkE (f' c) < rkE (f' l)))) ∧ TabAt w' T mb (.slice (some ⟨g, 0, none⟩) n cap) room births n f' ∧ Below wr.heap.size wr w') := fun X P hX hP => by
          subst hX hP
          exact (ahead_any wr G1.out c l hcn hln).mono (fun e w' q => ⟨q.1, G1.out.below q.2, q.2⟩)
        have hc1 : 2 * x + 1 + (d + 1) = c + 1 := by omega
        have HC1 : Hid (2 * x + 1 + (d + 1) = c + 1) := hc1
        have hcs : c < 200 := by omega
        clear hl hc hout hc1 HL HLl
        by_cases ht : rkE (f' c) < rkE (f' l)
        · rw [if_pos ht] at HNX
          rw [decide_eq_true ht] at HC
          clear ht
          go_wp2_with (go_at_call 129; refine (HC.out _ _ (by omega) (by omega)).mono ?_; rintro e w2 ⟨rfl, h2, hb2⟩; have HT2 : Hid (TabAt w2 T mb (.slice (some ⟨g, 0, none⟩) n cap) room births n f') := h2; have HB2 : Hid (Below wr.heap.size wr w2) := hb2; clear h2 hb2)
          go_roundg q
          case measure => omega
          case rel => exact ⟨d + 1, by omega, (by rw [HC1.out]; rfl), (by rw [HNX.out]), HT2, G3.out.trans (Trn.below HB2.out) (fun _ _ q => q)⟩
        · rw [if_neg ht] at HNX
          rw [decide_eq_false ht] at HC
          clear ht
          go_wp2_with (go_at_call 129; refine (HC.out _ _ (by omega) (by omega)).mono ?_; rintro e w2 ⟨rfl, h2, hb2⟩; have HT2 : Hid (TabAt w2 T mb (.slice (some ⟨g, 0, none⟩) n cap) room births n f') := h2; have HB2 : Hid (Below wr.heap.size wr w2) := hb2; clear h2 hb2)
          go_roundg q
          case measure => omega
          case rel => exact ⟨d + 1, by omega, (by rw [HC1.out]; rfl), (by rw [HNX.out]), HT2, G3.out.trans (Trn.below HB2.out) (fun _ _ q => q)⟩
end Go.Proofs.YtclpnafiiobfhabGreatDoor
namespace Go.Proofs.YtclpnafiiobfhabGreatDoor
open Go.RowKit
set_option linter.unusedVariables false
set_option linter.unusedSimpArgs false

set_option maxHeartbeats 3200000 in
theorem sink_empty {T mb g cap room births : Nat} {f : Nat → En} (w : World) (h : TabAt w T mb (.slice (some ⟨g, 0, none⟩) 0 cap) room births 0 f) :
    Calls Tryz.prog 109 #[.pointer (some ⟨T, 0, none⟩), .int .i64 0] w fun e w' => e = .returned (.tuple #[]) ∧ w' = w := by
  have hT3 := h.blk.cell 3 _ rfl
  clear h
  go_enter Tryz.func109, Tryz.ntmps109
  go_wp2_with fail
  go_loopg [1] 1 (fun r s1 wx => s1 = .int .i64 0 ∧ w = wx)
  case atStart => exact ⟨rfl, rfl⟩
  case round =>
    obtain ⟨rfl, rfl⟩ := hrel
    go_wp2_with fail
    go_loopg [4, 5] 1 (fun q s4 s5 wx => s4 = .int .i64 0 ∧ s5 = .int .i64 1 ∧ w = wx)
    case atStart => exact ⟨rfl, rfl, rfl⟩
    case round =>
      obtain ⟨rfl, rfl, rfl⟩ := hrel
      go_wp2_with fail
      refine bodyPost_ret (v := .tuple #[]) (results_none rfl _ _ _) rfl ?_
      exact ⟨rfl, rfl⟩
set_option maxHeartbeats 3200000 in
theorem settle_any {T mb g n cap room births : Nat} {f : Nat → En} (w : World) (h : TabAt w T mb (.slice (some ⟨g, 0, none⟩) n cap) room births n f) (a : Nat) (ha : a < n) :
    Calls Tryz.prog 104 #[.pointer (some ⟨T, 0, none⟩), .int .i64 (a : Int)] w fun e w' => e = .returned (.tuple #[]) ∧ TabAt w' T mb (.slice (some ⟨g, 0, none⟩) n cap) room births n (Hp.settle rkE n f a) ∧ Trn (Ows T mb (.slice (some ⟨g, 0, none⟩) n cap)) w w' := by
  have HR : Hid (Calls _ _ _ w _) := rise_any w h n a (by omega) ha
  clear h
  go_enter Tryz.func104, Tryz.ntmps104
  go_wp2_with (first | (go_at_call 127; refine HR.out.mono ?_; rintro e w2 ⟨rfl, h2, t2⟩; have HS : Hid (Calls _ _ _ w2 _) := sink_any w2 h2 n a (by omega) ha; have T2 : Hid (Trn (Ows T mb (.slice (some ⟨g, 0, none⟩) n cap)) w w2) := t2; clear h2 t2) | (go_at_call 109; refine HS.out.mono ?_; rintro e w3 ⟨rfl, h3, t3⟩; have HT3 : Hid (TabAt w3 T mb (.slice (some ⟨g, 0, none⟩) n cap) room births n (Hp.sink rkE n n (Hp.rise rkE n f a) a)) := h3; have T3 : Hid (Trn (Ows T mb (.slice (some ⟨g, 0, none⟩) n cap)) w2 w3) := t3; clear h3 t3))
  go_end0
  exact ⟨rfl, HT3.out, T2.out.trans T3.out (fun _ _ q => q)⟩
theorem EntsAt.less {W : World} {g n m cap : Nat} {f : Nat → En} (h : EntsAt W g n cap f) (hm : m ≤ n) : EntsAt W g m cap f := by
  obtain ⟨cur, hh, a, b, c, d⟩ := h
  exact ⟨cur, hh, a, by omega, c, fun i hi k v hv => d i (by omega) k v hv⟩
/-- the last is struck -/
theorem TabAt.less {T mb g n cap room births : Nat} {f : Nat → En} {W1 W2 : World} (h : TabAt W1 T mb (.slice (some ⟨g, 0, none⟩) (n + 1) cap) room births (n + 1) f) (hg : W1.drew.grownBy W2 (some mb)) (hp : Plc W2 mb (fun x y => x ≠ (f n).k ∧ (y < n + 1 ∧ (f y).k = x))) :
    TabAt (W2.setCell ⟨T, 3, none⟩ (.slice (some ⟨g, 0, none⟩) n cap)) T mb (.slice (some ⟨g, 0, none⟩) n cap) room births n f ∧ Trn (Ows T mb (.slice (some ⟨g, 0, none⟩) n cap)) W1 (W2.setCell ⟨T, 3, none⟩ (.slice (some ⟨g, 0, none⟩) n cap)) := by
  obtain ⟨gT, gm⟩ := h.tr g rfl
  have hT2 : W2.heap[T]? = W1.heap[T]? := hg.block T h.blk.lt (fun q => h.tm (by cases q; rfl))
  have hg2 : W2.heap[g]? = W1.heap[g]? := hg.block g h.ents.lt (fun q => gm (by cases q; rfl))
  have apart : ∀ a b, a < n + 1 → b < n + 1 → (f a).k = (f b).k → a = b := fun a b ha hb e => h.map.fn ⟨ha, e⟩ ⟨hb, rfl⟩
  have hB : Blk 166 W2 T [.int .i64 (room : Int), .int .u64 (births : Int), .map (some mb), .slice (some ⟨g, 0, none⟩) (n + 1) cap] := ⟨hT2.trans h.blk.1, h.blk.2⟩
  have oth : ∀ m, m ≠ T → (W2.setCell ⟨T, 3, none⟩ (.slice (some ⟨g, 0, none⟩) n cap)).heap[m]? = W2.heap[m]? := fun m hm => by
    simp only [World.setCell, Array.getElem?_modify]
    rw [if_neg (fun q => hm q.symm)]
  refine ⟨⟨hB.set 3 _, .inr ⟨g, cap, rfl, ((h.ents.same hg2).less (by omega)).same (oth g gT)⟩, (hp.same (oth mb (fun q => h.tm q.symm))).congr (fun x y => ?_), fun i hi => h.wf i (by omega), fun i hi => h.ns i (by omega), h.tm, fun x hx => h.tr x hx, by have := h.le; omega, h.big⟩, ?_⟩
  · constructor
    · rintro ⟨q, hy, rfl⟩
      refine ⟨?_, rfl⟩
      by_cases e : y = n
      · subst e; exact absurd rfl q
      · omega
    · rintro ⟨hy, rfl⟩
      exact ⟨fun q => absurd (apart y n (by omega) (by omega) q) (by omega), by omega, rfl⟩
  · exact ((Trn.drew _ _).trans (Trn.grown hg (.inr (.inl rfl))) (fun _ _ q => q)).trans (Trn.setCell _ _ _ _ (.inl rfl)) (fun _ _ q => q)
theorem sink_first {T mb g n cap room births : Nat} {f : Nat → En} (w : World) (h : TabAt w T mb (.slice (some ⟨g, 0, none⟩) n cap) room births n f) :
    Calls Tryz.prog 109 #[.pointer (some ⟨T, 0, none⟩), .int .i64 0] w fun e w' => e = .returned (.tuple #[]) ∧ TabAt w' T mb (.slice (some ⟨g, 0, none⟩) n cap) room births n (Hp.sink rkE n n f 0) ∧ Trn (Ows T mb (.slice (some ⟨g, 0, none⟩) n cap)) w w' := by
  cases n with
  | zero => exact (sink_empty w h).mono (fun e w' q => ⟨q.1, by rw [q.2]; exact h, by rw [q.2]; exact Trn.refl _ _⟩)
  | succ n => exact sink_any w h (n + 1) 0 (by omega) (by omega)
theorem EntsAt.key {W : World} {g n cap : Nat} {f : Nat → En} (h : EntsAt W g n cap f) {i : Nat} (hi : i < n) {la lp ha hp p : Int} (hk : (f i).k = ⟨la, lp, ha, hp, p⟩) : W.cell? ⟨g, i * 14, none⟩ = some (.int .u32 la) ∧ W.cell? ⟨g, i * 14 + 1, none⟩ = some (.int .u16 lp) ∧ W.cell? ⟨g, i * 14 + 2, none⟩ = some (.int .u32 ha) ∧ W.cell? ⟨g, i * 14 + 3, none⟩ = some (.int .u16 hp) ∧ W.cell? ⟨g, i * 14 + 4, none⟩ = some (.int .u8 p) := by
  have e : (f i).l = (En.mk ⟨la, lp, ha, hp, p⟩ (f i).v (f i).n).l := by rw [← hk]
  exact ⟨h.cell hi 0 _ (by rw [e]; rfl), h.cell hi 1 _ (by rw [e]; rfl), h.cell hi 2 _ (by rw [e]; rfl), h.cell hi 3 _ (by rw [e]; rfl), h.cell hi 4 _ (by rw [e]; rfl)⟩
set_option maxRecDepth 20000 in
set_option maxHeartbeats 6400000 in
theorem dropFirst_any {T mb g n cap room births : Nat} {f : Nat → En} (w : World) (h : TabAt w T mb (.slice (some ⟨g, 0, none⟩) (n + 1) cap) room births (n + 1) f) :
    Calls Tryz.prog 78 #[.pointer (some ⟨T, 0, none⟩)] w fun e w' => e = .returned (.tuple #[]) ∧ TabAt w' T mb (.slice (some ⟨g, 0, none⟩) n cap) room births n (Hp.dropFirst rkE n f) ∧ Trn (Ows T mb (.slice (some ⟨g, 0, none⟩) n cap)) w w' := by
  have hT3 := h.blk.cell 3 _ rfl
  have hnn : n + 1 ≤ 64 := Nat.le_trans h.le h.big
  obtain ⟨gT, gm⟩ := h.tr g rfl
  have hcap : n + 1 ≤ cap := by obtain ⟨_, _, _, q, _⟩ := h.ents; exact q
  have HS : Hid (∀ X P : Int, X = ((0 : Nat) : Int) → P = ((n : Nat) : Int) → Calls Tryz.prog 108 #[.pointer (some ⟨T, 0, none⟩), .int .i64 X, .int .i64 P] w fun e w' => e = .returned (.tuple #[]) ∧ TabAt w' T mb (.slice (some ⟨g, 0, none⟩) (n + 1) cap) room births (n + 1) (Hp.swp f 0 n) ∧ Trn (Ows T mb (.slice (some ⟨g, 0, none⟩) n cap)) w w') := fun X P hX hP => by subst hX hP; exact swap_any w h 0 n (by omega) (by omega)
  clear h
  obtain ⟨F, hF⟩ : ∃ F, Hp.swp f 0 n = F := ⟨_, rfl⟩
  have HD : Hid (Hp.dropFirst rkE n f = Hp.sink rkE n n F 0) := by show Hp.dropFirst rkE n f = _; rw [← hF]; rfl
  rw [hF] at HS
  clear hF
  go_enter Tryz.func78, Tryz.ntmps78
  go_upto_region 2 with (go_at_call 108; refine (HS.out _ _ (by omega) (by omega)).mono ?_; rintro e w2 ⟨rfl, h2, t2⟩; have H2 : Hid (TabAt w2 T mb (.slice (some ⟨g, 0, none⟩) (n + 1) cap) room births (n + 1) F) := h2; have T2 : Hid (Trn (Ows T mb (.slice (some ⟨g, 0, none⟩) n cap)) w w2) := t2; clear h2 t2)
  obtain ⟨⟨la, lp, ha, hp, kp⟩, hky⟩ : ∃ ky, (F n).k = ky := ⟨_, rfl⟩
  obtain ⟨k0, k1, k2, k3, k4⟩ := H2.out.ents.key (Nat.lt_succ_self n) hky
  have hwf : Ky.Wf ⟨la, lp, ha, hp, kp⟩ := by rw [← hky]; exact H2.out.wf n (by omega)
  obtain ⟨W3, hr3, hP3, hg3⟩ := Plc.drop (W := w2.drew) (H2.out.map.same rfl) hwf 0
  dsimp only [Ky.cells] at hr3
  have HP3 : Hid (Plc W3 mb (fun x y => x ≠ (F n).k ∧ (y < n + 1 ∧ (F y).k = x))) := by rw [hky]; exact hP3
  have HG3 : Hid (w2.drew.grownBy W3 (some mb)) := hg3
  have hT2 := H2.out.blk.cell 2 _ rfl
  have hT3' := H2.out.blk.cell 3 _ rfl
  have i1 : (0 : Int) ≤ (n : Int) := by omega
  have i2 : (n : Int) < ((n + 1 : Nat) : Int) := by omega
  clear hT3 hky hP3 hg3
  go_cut [23] from 12 to 22 (fun _ w' => w' = W3)
  case first =>
    go_big_region
    go_wp2_with fail
    go_meet
    rfl
  subst hcut
  clear hr3 hT2 hT3' k0 k1 k2 k3 k4
  have HL : Hid (_ ∧ _) := H2.out.less HG3.out HP3.out
  have hB3 : wc.heap[T]? = w2.heap[T]? := HG3.out.block T H2.out.blk.lt (fun q => H2.out.tm (by cases q; rfl))
  have hT3 : wc.cell? ⟨T, 3, none⟩ = some (.slice (some ⟨g, 0, none⟩) (n + 1) cap) := (World.cell?_of_block (a := ⟨T, 3, none⟩) hB3).trans (H2.out.blk.cell 3 _ rfl)
  have fT3 : wc.frozen? ⟨T, 3, none⟩ = false := (World.frozen?_of_block (a := ⟨T, 3, none⟩) hB3).trans (H2.out.blk.frozen 3)
  clear hB3
  go_upto_region 4 with fail
  generalize wc.setCell ⟨T, 3, none⟩ (.slice (some ⟨g, 0, none⟩) n cap) = W4 at HL ⊢
  have HK : Hid (Calls Tryz.prog 109 #[.pointer (some ⟨T, 0, none⟩), .int .i64 0] W4 fun e w' => e = .returned (.tuple #[]) ∧ TabAt w' T mb (.slice (some ⟨g, 0, none⟩) n cap) room births n (Hp.sink rkE n n F 0) ∧ Trn (Ows T mb (.slice (some ⟨g, 0, none⟩) n cap)) W4 w') := sink_first W4 HL.out.1
  clear hT3 fT3
  go_wp2_with (go_at_call 109; refine HK.out.mono ?_; rintro e w5 ⟨rfl, h5, t5⟩)
  go_end0
  exact ⟨rfl, h5.congr HD.out.symm, (T2.out.trans HL.out.2 (fun _ _ q => q)).trans t5 (fun _ _ q => q)⟩
end Go.Proofs.YtclpnafiiobfhabGreatDoor
namespace Go.Proofs.YtclpnafiiobfhabGreatDoor
open Go.RowKit
set_option linter.unusedVariables false
set_option linter.unusedSimpArgs false

/-- the cells of n entries -/
def cellsTo (f : Nat → En) : Nat → List Value
  | 0 => []
  | n + 1 => cellsTo f n ++ (f n).l
theorem cellsTo_len (f : Nat → En) : ∀ n, (cellsTo f n).length = n * 14
  | 0 => rfl
  | n + 1 => by rw [cellsTo, List.length_append, cellsTo_len f n, En.len]; omega
theorem cellsTo_get (f : Nat → En) : ∀ (n i k : Nat), i < n → k < 14 → (cellsTo f n)[i * 14 + k]? = (f i).l[k]?
  | 0, i, k, hi, _ => by omega
  | n + 1, i, k, hi, hk => by
    rw [cellsTo]
    by_cases e : i = n
    · subst e
      rw [List.getElem?_append_right (by rw [cellsTo_len]; omega), cellsTo_len, show i * 14 + k - i * 14 = k by omega]
    · rw [List.getElem?_append_left (by rw [cellsTo_len]; omega)]
      exact cellsTo_get f n i k (by omega) hk
theorem cellsTo_put (f : Nat → En) (e : En) : ∀ (n m : Nat), n ≤ m → cellsTo (Hp.put f m e) n = cellsTo f n
  | 0, _, _ => rfl
  | n + 1, m, h => by rw [cellsTo, cellsTo, cellsTo_put f e n m (by omega), Hp.put_other _ _ _ _ (by omega)]
theorem RowAt.owns {W : World} {v : Value} {n : Nat} {f : Nat → En} (h : RowAt W v n f) : W.ownsRow 0 168 14 v n (cellsTo f n) := by
  rcases h with ⟨rfl, rfl⟩ | ⟨g, cap, rfl, cur, hh, a, b, c, d⟩
  · exact World.ownsRow_nil _ _ _ _
  · refine ⟨cellsTo_len f n, .inr ⟨g, cap, cur, rfl, Nat.zero_le _, hh, b, c, a, ?_⟩⟩
    apply List.ext_getElem?
    intro j
    by_cases hj : j < n * 14
    · have hm := Nat.mod_lt j (show 14 > 0 by decide)
      have hd : j / 14 < n := by omega
      have ej : j = j / 14 * 14 + j % 14 := by omega
      rw [List.getElem?_take_of_lt hj]
      rw [ej, cellsTo_get f n _ _ hd hm]
      obtain ⟨v, hv⟩ : ∃ v, (f (j / 14)).l[j % 14]? = some v := ⟨_, List.getElem?_eq_getElem (by rw [En.len]; exact hm)⟩
      rw [hv]
      simpa using d (j / 14) hd (j % 14) v hv
    · rw [List.getElem?_eq_none (by rw [List.length_take]; omega), List.getElem?_eq_none (by rw [cellsTo_len]; omega)]
theorem owns_ents {W : World} {g n cap : Nat} {f : Nat → En} (h : W.ownsRow 0 168 14 (.slice (some ⟨g, 0, none⟩) n cap) n (cellsTo f n)) : EntsAt W g n cap f := by
  obtain ⟨_, q⟩ := h
  rcases q with ⟨q, _⟩ | ⟨g', cap', cur, q, _, hh, b, c, a, t⟩
  · cases q
  · cases q
    refine ⟨cur, hh, a, b, c, fun i hi k v hv => ?_⟩
    have hk : k < 14 := by have := (List.getElem?_eq_some_iff.1 hv).1; rw [En.len] at this; exact this
    have e := cellsTo_get f n i k hi hk
    rw [← t, List.getElem?_take_of_lt (by omega), hv] at e
    simpa using e
theorem RowAt.form {W : World} {v : Value} {n : Nat} {f : Nat → En} (h : RowAt W v n f) : ∃ p c, v = .slice p n c := by
  rcases h with ⟨rfl, rfl⟩ | ⟨g, cap, rfl, _⟩
  · exact ⟨_, _, rfl⟩
  · exact ⟨_, _, rfl⟩
theorem RowAt.lt {W : World} {v : Value} {n : Nat} {f : Nat → En} (h : RowAt W v n f) (x : Nat) (hx : v.ownBlock = some x) : x < W.heap.size := by
  rcases h with ⟨rfl, rfl⟩ | ⟨g, cap, rfl, q⟩
  · cases hx
  · cases hx; exact q.lt
theorem Tryz.infoEn : (Tryz.prog.info? 168).map (fun i => (i.zero, i.size, i.bytes)) = some (some (.agg #[.int .u32 0, .int .u16 0, .int .u32 0, .int .u16 0, .int .u8 0, .int .u32 0, .int .u32 0, .int .u8 0, .int .u16 0, .int .u16 0, .bool false, .bool false, .int .u64 0, .int .u64 0]), 14, 56) := by kernel_rfl
/-- what the append leaves, behind the store of the new slice -/
structure Added (W0 w' : World) (T mb : Nat) (v : Value) (room births n gg cap' : Nat) (f : Nat → En) (e : En) (bx : Nat) : Prop where
  blk : Blk 166 w' T [.int .i64 (room : Int), .int .u64 (births : Int), .map (some mb), .slice (some ⟨gg, 0, none⟩) (n + 1) cap']
  ents : EntsAt w' gg (n + 1) cap' (Hp.put f n e)
  map : Plc w' mb (fun k i => i < n ∧ (f i).k = k)
  gT : gg ≠ T
  gm : gg ≠ mb
  trn : Trn (Ows T mb v) W0 w'
  at' : v.ownBlock = some gg ∨ W0.heap.size ≤ gg
  box : Blk 168 w' bx e.l
theorem added {W0 u w3 : World} {T mb : Nat} {v : Value} {room births n gg cap' : Nat} {f : Nat → En} {e : En} {bx : Nat} {o : Obj} (h : TabAt W0 T mb v room births n f) (hbx : Blk 168 W0 bx e.l) (b1 : bx ≠ T) (b2 : v.ownBlock ≠ some bx) (hu : u.heap = (W0.alloc o).heap) (h2 : u.os = W0.os) (h3 : u.tape = W0.tape) (h4 : u.output = W0.output) (hg : u.grownBy w3 v.ownBlock) (hat : v.ownBlock = some gg ∨ gg = W0.heap.size + 1)
    (hown : w3.ownsRow 0 168 14 (.slice (some ⟨gg, 0, none⟩) (n + 1) cap') (n + 1) (cellsTo f n ++ e.l)) :
    Added W0 (w3.setCell ⟨T, 3, none⟩ (.slice (some ⟨gg, 0, none⟩) (n + 1) cap')) T mb v room births n gg cap' f e bx := by
  have blk : ∀ m, m < W0.heap.size → v.ownBlock ≠ some m → w3.heap[m]? = W0.heap[m]? := fun m hm hn => by
    rw [hg.block m (by rw [hu]; simp; omega) (fun q => hn q.symm), hu]
    exact Below.heap_alloc _ _ _ hm
  have oth : ∀ m, m ≠ T → (w3.setCell ⟨T, 3, none⟩ (.slice (some ⟨gg, 0, none⟩) (n + 1) cap')).heap[m]? = w3.heap[m]? := fun m hm => by
    simp only [World.setCell, Array.getElem?_modify]
    rw [if_neg (fun q => hm q.symm)]
  have gT : gg ≠ T := by
    rcases hat with q | q
    · exact (h.tr gg q).1
    · have := h.blk.lt; omega
  have gm : gg ≠ mb := by
    rcases hat with q | q
    · exact (h.tr gg q).2
    · have := h.map.lt; omega
  have hT : w3.heap[T]? = W0.heap[T]? := blk T h.blk.lt (fun q => (h.tr T q).1 rfl)
  have hM : w3.heap[mb]? = W0.heap[mb]? := blk mb h.map.lt (fun q => (h.tr mb q).2 rfl)
  have hB : Blk 166 w3 T [.int .i64 (room : Int), .int .u64 (births : Int), .map (some mb), v] := ⟨hT.trans h.blk.1, h.blk.2⟩
  refine ⟨hB.set 3 _, (owns_ents (f := Hp.put f n e) ?_).same (oth gg gT), h.map.same ((oth mb (fun q => h.tm q.symm)).trans hM), gT, gm, ?_, hat.imp id (fun q => by omega), ⟨(oth bx b1).trans ((blk bx hbx.lt b2).trans hbx.1), hbx.2⟩⟩
  · rw [cellsTo, cellsTo_put f e n n (Nat.le_refl _), Hp.put_same]; exact hown
  · have t1 : Trn (Ows T mb v) W0 u := ⟨h2, h3, h4, by rw [hu]; simp, fun m hm _ => by rw [hu]; exact Below.heap_alloc _ _ _ hm⟩
    exact (t1.trans (Trn.grown' hg (fun b q => .inr (.inr q))) (fun _ _ q => q)).trans (Trn.setCell _ _ _ _ (.inl rfl)) (fun _ _ q => q)
theorem added_tab {W0 wc W1 : World} {T mb : Nat} {v : Value} {room births n gg cap' : Nat} {f : Nat → En} {e : En} {bx : Nat} (h : TabAt W0 T mb v room births n f) (A : Added W0 wc T mb v room births n gg cap' f e bx) (hk : e.k.Wf) (hnew : ∀ i, i < n → (f i).k ≠ e.k) (hne : e.n < 18446744073709551616) (hn : n < room) (hg : wc.drew.grownBy W1 (some mb)) (hp : Plc W1 mb (fun x y => (x = e.k ∧ y = n) ∨ (x ≠ e.k ∧ (y < n ∧ (f y).k = x)))) :
    TabAt W1 T mb (.slice (some ⟨gg, 0, none⟩) (n + 1) cap') room births (n + 1) (Hp.put f n e) ∧ Trn (Ows T mb v) W0 W1 := by
  have hT : W1.heap[T]? = wc.heap[T]? := hg.block T A.blk.lt (fun q => h.tm (by cases q; rfl))
  have hG : W1.heap[gg]? = wc.heap[gg]? := hg.block gg A.ents.lt (fun q => A.gm (by cases q; rfl))
  refine ⟨⟨⟨hT.trans A.blk.1, A.blk.2⟩, .inr ⟨gg, cap', rfl, A.ents.same hG⟩, hp.congr (fun x y => ?_), fun i hi => ?_, fun i hi => ?_, h.tm, fun x hx => by cases hx; exact ⟨A.gT, A.gm⟩, by omega, h.big⟩, ?_⟩
  · by_cases q : y = n
    · subst q
      rw [Hp.put_same]
      constructor
      · rintro (⟨rfl, _⟩ | ⟨_, z, _⟩)
        · exact ⟨by omega, rfl⟩
        · omega
      · rintro ⟨_, rfl⟩; exact .inl ⟨rfl, rfl⟩
    · rw [Hp.put_other _ _ _ _ q]
      constructor
      · rintro (⟨_, z⟩ | ⟨_, z, r⟩)
        · exact absurd z q
        · exact ⟨by omega, r⟩
      · rintro ⟨z, rfl⟩
        have hy : y < n := by omega
        exact .inr ⟨hnew y hy, hy, rfl⟩
  · by_cases q : i = n
    · subst q; rw [Hp.put_same]; exact hk
    · rw [Hp.put_other _ _ _ _ q]; exact h.wf i (by omega)
  · by_cases q : i = n
    · subst q; rw [Hp.put_same]; exact hne
    · rw [Hp.put_other _ _ _ _ q]; exact h.ns i (by omega)
  · exact (A.trn.trans (Trn.drew _ _) (fun _ _ q => q)).trans (Trn.grown hg (.inr (.inl rfl))) (fun _ _ q => q)
theorem infos {P : Program} {e : TypeId} {z : Value} {s b : Nat} (h : (P.info? e).map (fun i => (i.zero, i.size, i.bytes)) = some (some z, s, b)) : ∃ i, P.info? e = some i ∧ i.zero = some z ∧ i.size = s ∧ i.bytes = b := by
  cases hq : P.info? e with
  | none => simp [hq] at h
  | some i => simp only [hq, Option.map_some, Option.some.injEq, Prod.mk.injEq] at h; exact ⟨i, rfl, h.1, h.2.1, h.2.2⟩
theorem owns_keep {w w' : World} {B : Nat} {e : TypeId} {sz : Nat} {v : Value} {n : Nat} {xs : List Value} (h : w.ownsRow B e sz v n xs) (hk : ∀ g, v.ownBlock = some g → w'.heap[g]? = w.heap[g]?) : w'.ownsRow B e sz v n xs := by
  obtain ⟨h1, h2⟩ := h
  refine ⟨h1, ?_⟩
  rcases h2 with q | ⟨g, cap, cur, rfl, q1, q2, q3⟩
  · exact .inl q
  · exact .inr ⟨g, cap, cur, rfl, q1, (hk g rfl).trans q2, q3⟩
set_option maxRecDepth 100000 in
set_option maxHeartbeats 12800000 in
theorem tadd_any {T mb room births n : Nat} {v : Value} {f : Nat → En} (w : World) (h : TabAt w T mb v room births n f) (e : En) (hn : n < room) (hk : e.k.Wf) (hnew : ∀ i, i < n → (f i).k ≠ e.k) (hne : e.n < 18446744073709551616) :
    Calls Tryz.prog 105 #[.pointer (some ⟨T, 0, none⟩), .agg e.l.toArray] w fun r w' => r = .returned (.tuple #[]) ∧ ∃ v', TabAt w' T mb v' room births (n + 1) (Hp.add rkE n f e) ∧ Trn (Ows T mb v) w w' ∧ ∀ x, Ows T mb v' x → Ows T mb v x ∨ w.heap.size ≤ x := by
  obtain ⟨pp, cc, hv⟩ := h.row.form
  have HH : Hid (TabAt w T mb v room births n f) := h
  have hnn : n < 64 := Nat.lt_of_lt_of_le hn h.big
  have HEW : Hid (e.k.Wf ∧ (∀ i, i < n → (f i).k ≠ e.k) ∧ e.n < 18446744073709551616 ∧ n < room) := ⟨hk, hnew, hne, hn⟩
  have HOE : Hid (∀ x ∈ e.l, x.oneCell' = true) := e.one
  clear hk hnew hne hn
  obtain ⟨W0, hW0⟩ : ∃ W0, w.alloc (.cells e.l.toArray 168) = W0 := ⟨_, rfl⟩
  have hz0' : W0.heap.size = w.heap.size + 1 := by rw [← hW0]; simp
  have HB0 : Hid (Below w.heap.size w W0) := show Below w.heap.size w W0 by rw [← hW0]; exact (Below.refl _ w).alloc (Nat.le_refl _) _
  have HBX : Hid (Blk 168 W0 w.heap.size e.l) := by rw [← hW0]; exact Blk.made w _ _ e.one
  have HE : Hid (e = e) := rfl
  obtain ⟨e', he'⟩ : ∃ e', e = e' := ⟨_, rfl⟩
  have HEE : Hid (e = e') := he'
  rw [he'] at hW0
  clear he'
  obtain ⟨⟨la, lp, ha, hp, kp⟩, ⟨a, b, p, s, d, rep, clo, u⟩, nn⟩ := e'
  have HW0 : Hid (w.alloc (.cells #[.int .u32 la, .int .u16 lp, .int .u32 ha, .int .u16 hp, .int .u8 kp, .int .u32 a, .int .u32 b, .int .u8 p, .int .u16 s, .int .u16 d, .bool rep, .bool clo, .int .u64 (u : Int), .int .u64 (nn : Int)] 168) = W0) := hW0
  have r0 : ∀ i x, ([.int .u32 la, .int .u16 lp, .int .u32 ha, .int .u16 hp, .int .u8 kp, .int .u32 a, .int .u32 b, .int .u8 p, .int .u16 s, .int .u16 d, .bool rep, .bool clo, .int .u64 (u : Int), .int .u64 (nn : Int)] : List Value)[i]? = some x → W0.cell? ⟨w.heap.size, i, none⟩ = some x := fun i x hx => HBX.out.cell i x (by rw [HEE.out]; exact hx)
  have c0 := r0 0 _ rfl
  have c1 := r0 1 _ rfl
  have c2 := r0 2 _ rfl
  have c3 := r0 3 _ rfl
  have c4 := r0 4 _ rfl
  have c5 := r0 5 _ rfl
  have c6 := r0 6 _ rfl
  have c7 := r0 7 _ rfl
  have c8 := r0 8 _ rfl
  have c9 := r0 9 _ rfl
  have c10 := r0 10 _ rfl
  have c11 := r0 11 _ rfl
  have c12 := r0 12 _ rfl
  have c13 := r0 13 _ rfl
  have HC0 : Hid (TabAt W0 T mb v room births n f) := h.below HB0.out
  have hTw : T < w.heap.size := h.blk.lt
  have HVB : Hid (v.ownBlock ≠ some w.heap.size) := fun q => absurd (h.row.lt _ q) (by omega)
  have k3 : W0.cell? ⟨T, 3, none⟩ = some (.slice pp n cc) := by rw [← hv]; exact HC0.out.blk.cell 3 _ rfl
  have fT := HC0.out.blk.frozen 3
  have HV : Hid (v = .slice pp n cc) := hv
  have HOW : Hid (W0.ownsRow 0 168 14 (.slice pp n cc) n (cellsTo f n)) := by rw [← hv]; exact HC0.out.row.owns
  clear hW0 hv h r0
  rw [HEE.out]
  go_enter Tryz.func105, Tryz.ntmps105
  go_upto_region 1 with fail
  rw [HW0.out]
  go_upto_region 2 with fail
  obtain ⟨i0, hi0, hz0, hz1, hz2⟩ := infos Tryz.infoEn
  have HOWA : Hid (∀ u' : World, u'.heap = (W0.alloc (.cells #[.int .u32 la, .int .u16 lp, .int .u32 ha, .int .u16 hp, .int .u8 kp, .int .u32 a, .int .u32 b, .int .u8 p, .int .u16 s, .int .u16 d, .bool rep, .bool clo, .int .u64 (u : Int), .int .u64 (nn : Int)] 168)).heap → u'.ownsRow 0 168 14 (.slice pp n cc) n (cellsTo f n)) := fun u' hu => owns_keep (HOW.out.alloc (.cells #[.int .u32 la, .int .u16 lp, .int .u32 ha, .int .u16 hp, .int .u8 kp, .int .u32 a, .int .u32 b, .int .u8 p, .int .u16 s, .int .u16 d, .bool rep, .bool clo, .int .u64 (u : Int), .int .u64 (nn : Int)] 168)) (fun g _ => by rw [hu])
  have HNW : Hid (∀ u' : World, u'.heap = (W0.alloc (.cells #[.int .u32 la, .int .u16 lp, .int .u32 ha, .int .u16 hp, .int .u8 kp, .int .u32 a, .int .u32 b, .int .u8 p, .int .u16 s, .int .u16 d, .bool rep, .bool clo, .int .u64 (u : Int), .int .u64 (nn : Int)] 168)).heap → ∀ (j : Nat) (y : Value), ([.int .u32 la, .int .u16 lp, .int .u32 ha, .int .u16 hp, .int .u8 kp, .int .u32 a, .int .u32 b, .int .u8 p, .int .u16 s, .int .u16 d, .bool rep, .bool clo, .int .u64 (u : Int), .int .u64 (nn : Int)] : List Value)[j]? = some y → u'.cell? ((⟨W0.heap.size, 0, none⟩ : Addr).add j) = some y) := fun u' hu => World.news_of_block (w := u') (cs := #[.int .u32 la, .int .u16 lp, .int .u32 ha, .int .u16 hp, .int .u8 kp, .int .u32 a, .int .u32 b, .int .u8 p, .int .u16 s, .int .u16 d, .bool rep, .bool clo, .int .u64 (u : Int), .int .u64 (nn : Int)]) (t := 168) (fr := (0, 0)) (by rw [hu]; exact heap_alloc_new W0 _)
  have HAD : Hid (∀ (u' w3 : World) (gg cap' : Nat), u'.heap = (W0.alloc (.cells #[.int .u32 la, .int .u16 lp, .int .u32 ha, .int .u16 hp, .int .u8 kp, .int .u32 a, .int .u32 b, .int .u8 p, .int .u16 s, .int .u16 d, .bool rep, .bool clo, .int .u64 (u : Int), .int .u64 (nn : Int)] 168)).heap → u'.os = W0.os → u'.tape = W0.tape → u'.output = W0.output → u'.grownBy w3 (Value.slice pp n cc).ownBlock → ((Value.slice pp n cc).ownBlock = some gg ∨ gg = W0.heap.size + 1) → w3.ownsRow 0 168 14 (.slice (some ⟨gg, 0, none⟩) (n + 1) cap') (n + 1) (cellsTo f n ++ [.int .u32 la, .int .u16 lp, .int .u32 ha, .int .u16 hp, .int .u8 kp, .int .u32 a, .int .u32 b, .int .u8 p, .int .u16 s, .int .u16 d, .bool rep, .bool clo, .int .u64 (u : Int), .int .u64 (nn : Int)]) → Added W0 (w3.setCell ⟨T, 3, none⟩ (.slice (some ⟨gg, 0, none⟩) (n + 1) cap')) T mb v room births n gg cap' f e w.heap.size ∧ w3.cell? ⟨T, 3, none⟩ = some (.slice pp n cc) ∧ w3.frozen? ⟨T, 3, none⟩ = false) := fun u' w3 gg cap' q1 q2 q3 q4 q5 q6 q7 => by
    rw [← HV.out] at q5 q6
    have hb : w3.heap[T]? = W0.heap[T]? := by
      rw [q5.block T (by rw [q1]; simp; omega) (fun q => (HC0.out.tr T q.symm).1 rfl), q1]
      exact Below.heap_alloc _ _ _ HC0.out.blk.lt
    exact ⟨added HC0.out HBX.out (by omega) HVB.out q1 q2 q3 q4 q5 q6 (by rw [HEE.out]; exact q7), (World.cell?_of_block (a := ⟨T, 3, none⟩) hb).trans k3, (World.frozen?_of_block (a := ⟨T, 3, none⟩) hb).trans fT⟩
  have hTW : T < W0.heap.size := by omega
  have hTn : T ≠ W0.heap.size := by omega
  have hgn : w.heap.size ≠ W0.heap.size := by omega
  have hgl : w.heap.size < W0.heap.size := by omega
  have HZ : Hid (W0.heap.size = w.heap.size + 1) := hz0'
  clear HW0 hz0'
  go_cut [19] from 10 to 18 (fun _ w' => ∃ gg cap', Added W0 w' T mb v room births n gg cap' f e w.heap.size)
  case first =>
    go_region_law (refine step_append_lies _ (by rfl) _ _ _ (by rfl) 0 168 i0 _ 14 56 Tryz.underlying164 hi0 hz0 hz1 hz2 rfl (by decide) _ n (cellsTo f n) (by rfl) (HOWA.out _ (by rfl)) ⟨W0.heap.size, 0, none⟩ 1 1 [.int .u32 la, .int .u16 lp, .int .u32 ha, .int .u16 hp, .int .u8 kp, .int .u32 a, .int .u32 b, .int .u8 p, .int .u16 s, .int .u16 d, .bool rep, .bool clo, .int .u64 (u : Int), .int .u64 (nn : Int)] (by rfl) (by rfl) (HNW.out _ (by rfl)) (by simp [Value.oneCell']) (by decide) (by unfold maxLen; omega) (by omega) (by omega) (W0.heap.size + 1) (by simp) ?_; intro gg cap' w3 hown3 hgrow hat hlt3; have HA3 : Hid (Added W0 (w3.setCell ⟨T, 3, none⟩ (.slice (some ⟨gg, 0, none⟩) (n + 1) cap')) T mb v room births n gg cap' f e w.heap.size ∧ w3.cell? ⟨T, 3, none⟩ = some (.slice pp n cc) ∧ w3.frozen? ⟨T, 3, none⟩ = false) := HAD.out _ _ _ _ (by rfl) (by rfl) (by rfl) (by rfl) hgrow hat hown3; clear hgrow hat hown3; have m0 := HA3.out.2.1; have g0 := HA3.out.2.2)
    all_goals
      go_wp2_with fail
      go_meet
      exact ⟨_, _, HA3.out.1⟩
  obtain ⟨gg, cap', hA⟩ := hcut
  have HA : Hid (Added W0 wc T mb v room births n gg cap' f e w.heap.size) := hA
  have hT2 := hA.blk.cell 2 _ rfl
  have b0 : ∀ i x, ([.int .u32 la, .int .u16 lp, .int .u32 ha, .int .u16 hp, .int .u8 kp, .int .u32 a, .int .u32 b, .int .u8 p, .int .u16 s, .int .u16 d, .bool rep, .bool clo, .int .u64 (u : Int), .int .u64 (nn : Int)] : List Value)[i]? = some x → wc.cell? ⟨w.heap.size, i, none⟩ = some x := fun i x hx => HA.out.box.cell i x (by rw [HEE.out]; exact hx)
  have d0 := b0 0 _ rfl
  have d1 := b0 1 _ rfl
  have d2 := b0 2 _ rfl
  have d3 := b0 3 _ rfl
  have d4 := b0 4 _ rfl
  have hwf : Ky.Wf ⟨la, lp, ha, hp, kp⟩ := by have q := HEW.out.1; rw [HEE.out] at q; exact q
  obtain ⟨W1, hr1, hP1, hg1⟩ := Plc.store (W := wc.drew) (HA.out.map.same rfl) hwf n
  dsimp only [Ky.cells] at hr1
  have HTB : Hid (TabAt W1 T mb (.slice (some ⟨gg, 0, none⟩) (n + 1) cap') room births (n + 1) (Hp.put f n e) ∧ Trn (Ows T mb v) W0 W1) := added_tab HC0.out HA.out HEW.out.1 HEW.out.2.1 HEW.out.2.2.1 HEW.out.2.2.2 hg1 (hP1.congr (by rw [HEE.out]; exact fun _ _ => Iff.rfl))
  clear hA b0 hP1 hg1 c0 c1 c2 c3 c4 c5 c6 c7 c8 c9 c10 c11 c12 c13 k3 fT HAD HNW HOWA HOW
  go_upto_region 3 with fail
  go_cut [26] from 20 to 25 (fun _ w' => w' = W1)
  case first =>
    go_big_region
    go_wp2_with fail
    go_meet
    rfl
  subst hcut
  have HRI : Hid (Calls _ _ _ wc _) := rise_any wc HTB.out.1 n n (Nat.le_refl _) (by omega)
  clear hr1 hT2 d0 d1 d2 d3 d4
  go_wp2_with (go_at_call 127; refine HRI.out.mono ?_; rintro e' w5 ⟨rfl, h5, t5⟩)
  go_end0
  have hz := HZ.out
  refine ⟨rfl, .slice (some ⟨gg, 0, none⟩) (n + 1) cap', (by rw [← HEE.out]; exact h5), ((Trn.below HB0.out).trans HTB.out.2 (fun _ _ q => q)).trans t5 (fun m hm q => ?_), fun x q => ?_⟩
  · rcases q with q | q | q
    · exact .inl q
    · exact .inr (.inl q)
    · have q : gg = m := Option.some.inj q
      subst q
      rcases HA.out.at' with z | z
      · exact .inr (.inr z)
      · omega
  · rcases q with q | q | q
    · exact .inl (.inl q)
    · exact .inl (.inr (.inl q))
    · have q : gg = x := Option.some.inj q
      subst q
      rcases HA.out.at' with z | z
      · exact .inl (.inr (.inr z))
      · exact .inr (by omega)
end Go.Proofs.YtclpnafiiobfhabGreatDoor
namespace Go.Proofs.YtclpnafiiobfhabGreatDoor
open Go.RowKit
set_option linter.unusedVariables false
set_option linter.unusedSimpArgs false

theorem EntsAt.flow {W : World} {g n cap : Nat} {f : Nat → En} (h : EntsAt W g n cap f) {i : Nat} (hi : i < n) {a b p s d : Int} {rep clo : Bool} {u : Nat} (hk : (f i).v = ⟨a, b, p, s, d, rep, clo, u⟩) : W.cell? ⟨g, i * 14 + 5, none⟩ = some (.int .u32 a) ∧ W.cell? ⟨g, i * 14 + 6, none⟩ = some (.int .u32 b) ∧ W.cell? ⟨g, i * 14 + 7, none⟩ = some (.int .u8 p) ∧ W.cell? ⟨g, i * 14 + 8, none⟩ = some (.int .u16 s) ∧ W.cell? ⟨g, i * 14 + 9, none⟩ = some (.int .u16 d) ∧ W.cell? ⟨g, i * 14 + 10, none⟩ = some (.bool rep) ∧ W.cell? ⟨g, i * 14 + 11, none⟩ = some (.bool clo) ∧ W.cell? ⟨g, i * 14 + 12, none⟩ = some (.int .u64 (u : Int)) := by
  have e : (f i).l = (En.mk (f i).k ⟨a, b, p, s, d, rep, clo, u⟩ (f i).n).l := by rw [← hk]
  exact ⟨h.cell hi 5 _ (by rw [e]; rfl), h.cell hi 6 _ (by rw [e]; rfl), h.cell hi 7 _ (by rw [e]; rfl), h.cell hi 8 _ (by rw [e]; rfl), h.cell hi 9 _ (by rw [e]; rfl), h.cell hi 10 _ (by rw [e]; rfl), h.cell hi 11 _ (by rw [e]; rfl), h.cell hi 12 _ (by rw [e]; rfl)⟩
theorem Plc.alloc {W : World} {b : Nat} {R : Ky → Nat → Prop} (h : Plc W b R) (o : Obj) : Plc (W.alloc o) b R := h.same (Below.heap_alloc _ _ _ h.lt)
theorem Plc.drew {W : World} {b : Nat} {R : Ky → Nat → Prop} (h : Plc W b R) : Plc W.drew b R := h
set_option maxRecDepth 20000 in
set_option maxHeartbeats 6400000 in
theorem find_some {T mb room births n g cap : Nat} {f : Nat → En} (w : World) (h : TabAt w T mb (.slice (some ⟨g, 0, none⟩) n cap) room births n f) (k : Ky) (hk : k.Wf) (i : Nat) (hi : i < n) (he : (f i).k = k) :
    Calls Tryz.prog 66 #[.pointer (some ⟨T, 0, none⟩), .agg k.cells] w fun e w' => e = .returned (.tuple #[.agg (f i).v.cells, .bool true]) ∧ Below w.heap.size w w' := by
  have hT2 := h.blk.cell 2 _ rfl
  have hT3 := h.blk.cell 3 _ rfl
  have hTw := h.blk.lt
  have hgw := h.ents.lt
  obtain ⟨⟨a, b, p, s, d, rep, clo, u⟩, hfl⟩ : ∃ x, (f i).v = x := ⟨_, rfl⟩
  obtain ⟨e5, e6, e7, e8, e9, e10, e11, e12⟩ := h.ents.flow hi hfl
  have i1 : (0 : Int) ≤ (i : Int) := by omega
  have i2 : (i : Int) < (n : Int) := by omega
  have HL : Hid (∀ o o' : Obj, (Instr.lookup 163 (.map (some mb)) (.agg k.cells) true).run Tryz.prog ((w.alloc o).alloc o').drew = .ok (.tuple #[.int .i64 (i : Int), .bool true]) ((w.alloc o).alloc o').drew) := fun o o' => Plc.look_some (((h.map.alloc o).alloc o').drew) hk ⟨hi, he⟩
  rw [hfl]
  obtain ⟨la, lp, ha, hp, kp⟩ := k
  have hL := HL.out (.cells #[.int .u32 la, .int .u16 lp, .int .u32 ha, .int .u16 hp, .int .u8 kp] 112) (.cells #[.int .u32 0, .int .u32 0, .int .u8 0, .int .u16 0, .int .u16 0, .bool false, .bool false, .int .u64 0] 113)
  dsimp only [Ky.cells, Fl.cells] at hL ⊢
  clear h hk he hfl HL
  go_enter Tryz.func66, Tryz.ntmps66
  go_upto_region 1 with fail
  go_big_region
  go_wp2_with fail
  refine bodyPost_ret (v := .tuple #[.agg #[.int .u32 a, .int .u32 b, .int .u8 p, .int .u16 s, .int .u16 d, .bool rep, .bool clo, .int .u64 (u : Int)], .bool true]) (by simp [results, Tryz.results66, go_sem]) rfl ⟨rfl, ?_⟩
  repeat (first | with_reducible exact Below.refl _ _ | with_reducible refine Below.drew ?_ | with_reducible refine Below.setCell ?_ (by first | (simp; done) | (simp; omega)) _ | with_reducible refine Below.alloc ?_ (by first | (simp; done) | (simp; omega)) _)
set_option maxRecDepth 20000 in
set_option maxHeartbeats 6400000 in
theorem find_none {T mb room births n : Nat} {v : Value} {f : Nat → En} (w : World) (h : TabAt w T mb v room births n f) (k : Ky) (hk : k.Wf) (he : ∀ i, i < n → (f i).k ≠ k) :
    Calls Tryz.prog 66 #[.pointer (some ⟨T, 0, none⟩), .agg k.cells] w fun e w' => e = .returned (.tuple #[.agg fl0.cells, .bool false]) ∧ Below w.heap.size w w' := by
  have hT2 := h.blk.cell 2 _ rfl
  have hTw := h.blk.lt
  have HL : Hid (∀ o o' : Obj, (Instr.lookup 163 (.map (some mb)) (.agg k.cells) true).run Tryz.prog ((w.alloc o).alloc o').drew = .ok (.tuple #[.int .i64 0, .bool false]) ((w.alloc o).alloc o').drew) := fun o o' => Plc.look_none (((h.map.alloc o).alloc o').drew) hk (fun i q => he i q.1 q.2)
  obtain ⟨la, lp, ha, hp, kp⟩ := k
  have hL := HL.out (.cells #[.int .u32 la, .int .u16 lp, .int .u32 ha, .int .u16 hp, .int .u8 kp] 112) (.cells #[.int .u32 0, .int .u32 0, .int .u8 0, .int .u16 0, .int .u16 0, .bool false, .bool false, .int .u64 0] 113)
  dsimp only [Ky.cells, Fl.cells] at hL ⊢
  clear h hk he HL
  go_enter Tryz.func66, Tryz.ntmps66
  go_upto_region 1 with fail
  go_big_region
  go_wp2_with fail
  refine bodyPost_ret (v := .tuple #[.agg #[.int .u32 0, .int .u32 0, .int .u8 0, .int .u16 0, .int .u16 0, .bool false, .bool false, .int .u64 0], .bool false]) (by simp [results, Tryz.results66, go_sem]) rfl ⟨rfl, ?_⟩
  repeat (first | with_reducible exact Below.refl _ _ | with_reducible refine Below.drew ?_ | with_reducible refine Below.setCell ?_ (by first | (simp; done) | (simp; omega)) _ | with_reducible refine Below.alloc ?_ (by first | (simp; done) | (simp; omega)) _)
end Go.Proofs.YtclpnafiiobfhabGreatDoor
namespace Go.Proofs.YtclpnafiiobfhabGreatDoor
open Go.RowKit
set_option linter.unusedVariables false
set_option linter.unusedSimpArgs false

theorem en_part (y : En) (x : Fl) : (En.mk y.k x y.n).l = y.l.take 5 ++ x.l ++ y.l.drop (5 + x.l.length) := by
  obtain ⟨⟨_, _, _, _, _⟩, ⟨_, _, _, _, _, _, _, _⟩, _⟩ := y
  rfl
theorem TabAt.turned0 {T mb g n cap room births i : Nat} {f : Nat → En} {W W1 : World} (h : TabAt W T mb (.slice (some ⟨g, 0, none⟩) n cap) room births n f) (hi : i < n) (x : Fl) (hE : EntsAt W1 g n cap (Hp.put f i ⟨(f i).k, x, (f i).n⟩)) (t : Trn (fun y => y = g) W W1) :
    TabAt W1 T mb (.slice (some ⟨g, 0, none⟩) n cap) room births n (Hp.put f i ⟨(f i).k, x, (f i).n⟩) ∧ Trn (Ows T mb (.slice (some ⟨g, 0, none⟩) n cap)) W W1 := by
  obtain ⟨gT, gm⟩ := h.tr g rfl
  have hT := t.block T h.blk.lt (fun q => gT q.symm)
  have hM := t.block mb h.map.lt (fun q => gm q.symm)
  have hk : ∀ y, (Hp.put f i ⟨(f i).k, x, (f i).n⟩ y).k = (f y).k ∧ (Hp.put f i ⟨(f i).k, x, (f i).n⟩ y).n = (f y).n := fun y => by
    by_cases q : y = i
    · subst q; rw [Hp.put_same]; exact ⟨rfl, rfl⟩
    · rw [Hp.put_other _ _ _ _ q]; exact ⟨rfl, rfl⟩
  exact ⟨⟨⟨hT.trans h.blk.1, h.blk.2⟩, .inr ⟨g, cap, rfl, hE⟩, (h.map.same hM).congr (fun k y => by rw [(hk y).1]), fun y hy => by rw [(hk y).1]; exact h.wf y hy, fun y hy => by rw [(hk y).2]; exact h.ns y hy, h.tm, h.tr, h.le, h.big⟩, t.mono (fun m _ q => by subst q; exact .inr (.inr rfl))⟩
/-- an entry's value is stored anew -/
theorem TabAt.turned {T mb g n cap room births i : Nat} {f : Nat → En} {W : World} (h : TabAt W T mb (.slice (some ⟨g, 0, none⟩) n cap) room births n f) (hi : i < n) (x : Fl) :
    TabAt (W.setCells g (i * 14 + 5) x.l).drew T mb (.slice (some ⟨g, 0, none⟩) n cap) room births n (Hp.put f i ⟨(f i).k, x, (f i).n⟩) ∧ Trn (Ows T mb (.slice (some ⟨g, 0, none⟩) n cap)) W (W.setCells g (i * 14 + 5) x.l).drew := by
  have hl : x.l.length = 8 := rfl
  have q := TabAt.turned0 h hi x (h.ents.part hi 5 x.l ⟨(f i).k, x, (f i).n⟩ (en_part _ _) (by rw [hl]; omega)) (Trn.setCells (S := fun y => y = g) g rfl _ _ _)
  generalize W.setCells g (i * 14 + 5) x.l = W1 at q ⊢
  exact ⟨q.1.below (Below.drew (Below.refl _ _)), q.2.trans (Trn.drew _ _) (fun _ _ q => q)⟩
theorem TabAt.births {T mb n room births : Nat} {v : Value} {f : Nat → En} {W : World} (h : TabAt W T mb v room births n f) (b : Nat) : TabAt (W.setCell ⟨T, 1, none⟩ (.int .u64 (b : Int))) T mb v room b n f ∧ Trn (Ows T mb v) W (W.setCell ⟨T, 1, none⟩ (.int .u64 (b : Int))) := by
  have oth : ∀ m, m ≠ T → (W.setCell ⟨T, 1, none⟩ (.int .u64 (b : Int))).heap[m]? = W.heap[m]? := fun m hm => by
    simp only [World.setCell, Array.getElem?_modify]
    rw [if_neg (fun q => hm q.symm)]
  refine ⟨⟨h.blk.set 1 _, ?_, h.map.same (oth mb (fun q => h.tm q.symm)), h.wf, h.ns, h.tm, h.tr, h.le, h.big⟩, Trn.setCell _ _ _ _ (.inl rfl)⟩
  rcases h.row with q | ⟨g, cap, rfl, q⟩
  · exact .inl q
  · exact .inr ⟨g, cap, rfl, q.same (oth g (h.tr g rfl).1)⟩
set_option maxRecDepth 20000 in
set_option maxHeartbeats 6400000 in
theorem put_old {T mb room births n g cap : Nat} {f : Nat → En} (w : World) (h : TabAt w T mb (.slice (some ⟨g, 0, none⟩) n cap) room births n f) (k : Ky) (hk : k.Wf) (x : Fl) (i : Nat) (hi : i < n) (he : (f i).k = k) :
    Calls Tryz.prog 73 #[.pointer (some ⟨T, 0, none⟩), .agg k.cells, .agg x.cells] w fun e w' => e = .returned (.bool false) ∧ TabAt w' T mb (.slice (some ⟨g, 0, none⟩) n cap) room births n (Hp.settle rkE n (Hp.put f i ⟨(f i).k, x, (f i).n⟩) i) ∧ Trn (Ows T mb (.slice (some ⟨g, 0, none⟩) n cap)) w w' := by
  have i1 : (0 : Int) ≤ (i : Int) := by omega
  have i2 : (i : Int) < (n : Int) := by omega
  obtain ⟨fi, hfi⟩ : ∃ fi, Hp.put f i ⟨(f i).k, x, (f i).n⟩ = fi := ⟨_, rfl⟩
  have HFI : Hid (Hp.put f i ⟨(f i).k, x, (f i).n⟩ = fi) := hfi
  have HX : Hid (x = x) := rfl
  obtain ⟨x', hx'⟩ : ∃ x', x = x' := ⟨_, rfl⟩
  have HXX : Hid (x = x') := hx'
  obtain ⟨W0, hW0⟩ : ∃ W0, (w.alloc (.cells k.cells 112)).alloc (.cells x.cells 113) = W0 := ⟨_, rfl⟩
  have HB0 : Hid (Below w.heap.size w W0) := by rw [← hW0]; exact ((Below.refl _ _).alloc (Nat.le_refl _) _).alloc (by simp) _
  have HC0 : Hid (TabAt W0 T mb (.slice (some ⟨g, 0, none⟩) n cap) room births n f) := h.below HB0.out
  have HBK : Hid (∀ j y, k.cells[j]? = some y → W0.cell? ⟨w.heap.size, j, none⟩ = some y) := fun j y hy => by rw [← hW0, World.cell?_alloc_lt _ _ _ (by simp), World.cell?_alloc_at _ _ _ _ rfl]; exact hy
  have HBX : Hid (∀ j y, x.cells[j]? = some y → W0.cell? ⟨w.heap.size + 1, j, none⟩ = some y) := fun j y hy => by rw [← hW0, World.cell?_alloc_at _ _ _ _ (by simp)]; exact hy
  have HL : Hid ((Instr.lookup 163 (.map (some mb)) (.agg k.cells) true).run Tryz.prog W0.drew = .ok (.tuple #[.int .i64 (i : Int), .bool true]) W0.drew) := Plc.look_some HC0.out.map.drew hk ⟨hi, he⟩
  obtain ⟨W1, hW1⟩ : ∃ W1, W0.drew = W1 := ⟨_, rfl⟩
  have HW1 : Hid (W0.drew = W1) := hW1
  have HC1 : Hid (TabAt W1 T mb (.slice (some ⟨g, 0, none⟩) n cap) room births n f) := by rw [← hW1]; exact HC0.out.below (W' := W0.drew) (Below.drew (Below.refl _ _))
  have HTU : Hid (TabAt (W1.setCells g (i * 14 + 5) x.l).drew T mb (.slice (some ⟨g, 0, none⟩) n cap) room births n fi ∧ Trn (Ows T mb (.slice (some ⟨g, 0, none⟩) n cap)) W1 (W1.setCells g (i * 14 + 5) x.l).drew) := by
    have q := HC1.out.turned hi x
    rw [hfi] at q
    exact q
  have HWB : Hid ((w.alloc (.cells k.cells 112)).alloc (.cells x.cells 113) = W0) := hW0
  have hT2 := HC0.out.blk.cell 2 _ rfl
  obtain ⟨⟨a, b, p, s, d, rep, clo, u⟩, hfl⟩ : ∃ y, (f i).v = y := ⟨_, rfl⟩
  have HFL : Hid ((f i).v = ⟨a, b, p, s, d, rep, clo, u⟩) := hfl
  have HX1 : Hid (∀ j y, x.cells[j]? = some y → W1.cell? ⟨w.heap.size + 1, j, none⟩ = some y) := by rw [← hW1]; exact HBX.out
  rw [hfi]
  clear h hk he hfl hfi hW0 hW1
  rw [hx'] at HX1 HTU HWB ⊢
  clear hx'
  obtain ⟨la, lp, ha, hp, kp⟩ := k
  obtain ⟨xa, xb, xp, xs, xd, xrep, xclo, xu⟩ := x'
  have hL := HL.out
  have b0 := HBK.out 0 _ rfl
  have b1 := HBK.out 1 _ rfl
  have b2 := HBK.out 2 _ rfl
  have b3 := HBK.out 3 _ rfl
  have b4 := HBK.out 4 _ rfl
  dsimp only [Ky.cells, Fl.cells] at hL HWB ⊢
  clear HBK HBX HL HX
  go_enter Tryz.func73, Tryz.ntmps73
  go_upto_region 1 with fail
  rw [HWB.out]
  go_big_region
  go_upto_region 3 with fail
  rw [HW1.out]
  clear hL b0 b1 b2 b3 b4 hT2
  have hT3 := HC1.out.blk.cell 3 _ rfl
  have hfz := HC1.out.ents.frozen
  obtain ⟨e5, e6, e7, e8, e9, e10, e11, e12⟩ := HC1.out.ents.flow hi HFL.out
  have x0 := HX1.out 0 _ rfl
  have x1 := HX1.out 1 _ rfl
  have x2 := HX1.out 2 _ rfl
  have x3 := HX1.out 3 _ rfl
  have x4 := HX1.out 4 _ rfl
  have x5 := HX1.out 5 _ rfl
  have x6 := HX1.out 6 _ rfl
  have x7 := HX1.out 7 _ rfl
  go_cut [27] from 20 to 26 (fun _ w' => TabAt w' T mb (.slice (some ⟨g, 0, none⟩) n cap) room births n fi ∧ Trn (Ows T mb (.slice (some ⟨g, 0, none⟩) n cap)) W1 w')
  case first =>
    go_big_region
    go_wp2_with fail
    go_meet
    exact HTU.out
  have HST : Hid (Calls _ _ _ wc _) := settle_any wc hcut.1 i hi
  have HCU : Hid (TabAt wc T mb (.slice (some ⟨g, 0, none⟩) n cap) room births n fi ∧ Trn (Ows T mb (.slice (some ⟨g, 0, none⟩) n cap)) W1 wc) := hcut
  clear hcut x0 x1 x2 x3 x4 x5 x6 x7 e5 e6 e7 e8 e9 e10 e11 e12 hT3 hfz HTU
  go_wp2_with (go_at_call 104; refine HST.out.mono ?_; rintro e' w5 ⟨rfl, h5, t5⟩; have H5 : Hid (TabAt w5 T mb (.slice (some ⟨g, 0, none⟩) n cap) room births n (Hp.settle rkE n fi i)) := h5; have T5 : Hid (Trn (Ows T mb (.slice (some ⟨g, 0, none⟩) n cap)) wc w5) := t5; clear h5 t5)
  go_ret
  exact ⟨rfl, H5.out, ((Trn.below HB0.out).trans ((by have q := Trn.drew (Ows T mb (.slice (some ⟨g, 0, none⟩) n cap)) W0; rw [HW1.out] at q; exact q.trans HCU.out.2 (fun _ _ q => q)) : Trn _ W0 wc) (fun _ _ q => q)).trans T5.out (fun _ _ q => q)⟩
end Go.Proofs.YtclpnafiiobfhabGreatDoor

import Derived.Test.YtclpnafiiobfhabGreatDoorGKeepK
import Derived.Test.YtclpnafiiobfhabGreatDoorGKeepN
import Derived.Test.YtclpnafiiobfhabGreatDoorZKa
import Derived.Test.YtclpnafiiobfhabGreatDoorZFr
import Derived.Defers
namespace Go.Proofs.YtclpnafiiobfhabGreatDoor
open Go.RowKit
set_option linter.unusedVariables false
set_option linter.unusedSimpArgs false

/-- a gate's code: none, or a book's, in a block that is not among S -/
def CodeIs (W : World) (S : Nat → Prop) (cv : Value) (R : Option Bk) : Prop := (R = none ∧ cv = .slice none 0 0) ∨ ∃ b g c, R = some b ∧ GoodB b ∧ cv = .slice (some ⟨g, 0, none⟩) (codeS (bookL b)).size c ∧ Row W g 0 (codeS (bookL b)) ∧ g < W.heap.size ∧ ¬ S g ∧ (codeS (bookL b)).size ≤ c ∧ c ≤ maxLen
abbrev gateL (cv : Value) (K cA cD cR cM : Nat) : List Value := [cv, .pointer (some ⟨K, 0, none⟩), .int .u64 (cA : Int), .int .u64 (cD : Int), .int .u64 (cR : Int), .int .u64 (cM : Int), .nilFunc]
structure GateAt (W : World) (Q K : Nat) (O : Nat → Prop) (cv : Value) (R : Option Bk) (room now births : Nat) (F : List Fl) (cA cD cR cM : Nat) : Prop where
  blk : Blk 82 W Q (gateL cv K cA cD cR cM)
  code : CodeIs W (fun x => x = Q ∨ O x) cv R
  keeps : Kps W O K room now births F
  own : ¬ O Q
  cap : 1 ≤ room
theorem CodeIs.below {W W' : World} {S : Nat → Prop} {cv : Value} {R : Option Bk} (h : CodeIs W S cv R) (hb : Below W.heap.size W W') : CodeIs W' S cv R := by
  rcases h with q | ⟨b, g, c, q1, q2, q3, q4, q5, q6⟩
  · exact .inl q
  · exact .inr ⟨b, g, c, q1, q2, q3, fun i hi => (hb.cell (p := ⟨g, 0 + i, none⟩) q5).trans (q4 i hi), Nat.lt_of_lt_of_le q5 hb.size, q6⟩
theorem CodeIs.trn {W W' : World} {S S' : Nat → Prop} {cv : Value} {R : Option Bk} (h : CodeIs W S cv R) (ht : Trn S W W') (hs : ∀ x, x < W.heap.size → S' x → S x) : CodeIs W' S' cv R := by
  rcases h with q | ⟨b, g, c, q1, q2, q3, q4, q5, q6, q7⟩
  · exact .inl q
  · exact .inr ⟨b, g, c, q1, q2, q3, fun i hi => (World.cell?_of_block (a := ⟨g, 0 + i, none⟩) (ht.block g q5 q6)).trans (q4 i hi), Nat.lt_of_lt_of_le q5 ht.size, fun z => q6 (hs g q5 z), q7⟩
theorem CodeIs.one {W : World} {S : Nat → Prop} {cv : Value} {R : Option Bk} (h : CodeIs W S cv R) : cv.oneCell' = true := by
  rcases h with ⟨_, rfl⟩ | ⟨_, _, _, _, _, rfl, _⟩ <;> rfl
theorem GateAt.below {W W' : World} {Q K : Nat} {O : Nat → Prop} {cv : Value} {R : Option Bk} {room now births : Nat} {F : List Fl} {cA cD cR cM : Nat} (h : GateAt W Q K O cv R room now births F cA cD cR cM) (hb : Below W.heap.size W W') : GateAt W' Q K O cv R room now births F cA cD cR cM :=
  ⟨h.blk.below hb h.blk.lt, h.code.below hb, h.keeps.below hb, h.own, h.cap⟩
theorem eql_nil_bytes (w : World) (a : Option Addr) (n c : Nat) : (binOp .eql 30 (.slice a n c) (.slice none 0 0)).run Tryz.prog w = .ok (.bool a.isNone) w := by
  have h := Lib.run_eql_slice_nil (P := Tryz.prog) w 30 5 a n c 0 0 Tryz.underlying30
  exact h
theorem eql_nil_func (w : World) : (binOp .eql 78 .nilFunc .nilFunc).run Tryz.prog w = .ok (.bool true) w := by kernel_rfl
/-- what a gate's rules say -/
def verdG (R : Option Bk) (d : ByteArray) (i t : Int) : Nat := match R with
  | none => 0
  | some b => verdB b.pol d (i, t) b.rs
set_option maxRecDepth 20000 in
set_option maxHeartbeats 3200000 in
theorem gverdict_any {Q K : Nat} {O : Nat → Prop} {cv : Value} {R : Option Bk} {room now births : Nat} {F : List Fl} {cA cD cR cM : Nat} (w W : World) (hL : Laid W) (h : GateAt W Q K O cv R room now births F cA cD cR cM) (d : ByteArray) (fb fc : Nat) (i t : Int) (hd : Row W fb 0 d) (hfb : fb < W.heap.size) (h34 : 34 ≤ d.size) (hdz : d.size ≤ 300000) (hfc : d.size ≤ fc) (hfm : fc ≤ maxLen) (hi : 0 ≤ i ∧ i ≤ 255) (ht : 0 ≤ t ∧ t ≤ 2) :
    Calls Tryz.prog 42 #[.pointer (some ⟨Q, 0, none⟩), .int .u8 i, .slice (some ⟨fb, 0, none⟩) d.size fc, .int .u8 t] W fun e w' => e = .returned (.int .u8 (verdG R d i t : Int)) ∧ Below W.heap.size W w' := by
  have h0 := h.blk.cell 0 _ rfl
  have hn0 : ∀ (a : Option Addr) (n c : Nat) (w : World), (binOp .eql 30 (.slice a n c) (.slice none 0 0)).run Tryz.prog w = .ok (.bool a.isNone) w := fun a n c w => eql_nil_bytes w a n c
  rcases h.code with ⟨rfl, rfl⟩ | ⟨b, g, c, rfl, hgb, rfl, hrow, hlt, _, hc, hcm⟩
  · clear h hd hfb h34 hdz hfc hfm
    show Calls _ _ _ _ fun e w' => e = .returned (.int .u8 0) ∧ _
    go_enter Tryz.func42, Tryz.ntmps42
    go_wp2_with fail
    go_ret
    exact ⟨rfl, Below.refl _ _⟩
  · obtain ⟨z, hG⟩ := book_goes b hgb d (i, t) (by omega) h34 (by dsimp only; omega) (by dsimp only; omega)
    have hF := book_fine _ b hgb (book_code b hgb)
    have hR : Ran (codeS (bookL b)) d (i, t) (verdB b.pol d (i, t) b.rs : Int) z 0 := .inr ⟨_, hF.toFormed, hG⟩
    have HE : Hid (Calls _ _ _ W _) := exec_any (codeS (bookL b)) d (i, t) _ z 0 g 0 c fb 0 fc W hL hR hc hcm hlt hrow hd hfb hfc hfm (by omega) (by dsimp only; omega) (by dsimp only; omega)
    generalize (codeS (bookL b)).size = Z at HE h0
    obtain ⟨V, hV⟩ : ∃ V : Int, (verdG (some b) d i t : Int) = V := ⟨_, rfl⟩
    rw [show (verdB b.pol d (i, t) b.rs : Int) = V from hV] at HE
    rw [hV]
    have wi : i % 4294967296 = i := by omega
    have wt : t % 4294967296 = t := by omega
    dsimp only at HE
    clear h hgb hrow hG hF hR hV hd h34 hdz hfc hfm hc hcm hlt hfb
    go_enter Tryz.func42, Tryz.ntmps42
    go_wp2_with (go_at_call 62; refine HE.out.mono ?_; rintro e W1 ⟨rfl, hb1⟩)
    go_ret
    exact ⟨rfl, hb1⟩
/-- the counts behind a frame -/
def cntG (c v : Int) (k : Nat) : Nat := if c ≠ 0 then (if k = 3 then 1 else 0) else if v = 1 then (if k = 0 then 1 else 0) else if v = 2 then (if k = 2 then 1 else 0) else (if k = 1 then 1 else 0)
set_option maxHeartbeats 6400000 in
theorem gcount_any {Q K : Nat} {cv : Value} {cA cD cR cM : Nat} (W : World) (h : Blk 82 W Q (gateL cv K cA cD cR cM)) (c s v : Int) (kn ev : Bool) (b1 : cA + 1 < 18446744073709551616) (b2 : cD + 1 < 18446744073709551616) (b3 : cR + 1 < 18446744073709551616) (b4 : cM + 1 < 18446744073709551616) :
    Calls Tryz.prog 28 #[.pointer (some ⟨Q, 0, none⟩), .agg #[.int .u8 c, .int .u8 s, .int .u8 v, .bool kn, .bool ev]] W fun e w' => e = .returned (.tuple #[]) ∧ Blk 82 w' Q (gateL cv K (cA + cntG c v 0) (cD + cntG c v 1) (cR + cntG c v 2) (cM + cntG c v 3)) ∧ Trn (fun x => x = Q) W w' := by
  have HH : Hid (Blk 82 (W.alloc (.cells #[.int .u8 c, .int .u8 s, .int .u8 v, .bool kn, .bool ev] 76)) Q (gateL cv K cA cD cR cM)) := h.alloc _
  have c2 := h.cell 2 _ rfl
  have c3 := h.cell 3 _ rfl
  have c4 := h.cell 4 _ rfl
  have c5 := h.cell 5 _ rfl
  have f2 := h.frozen 2
  have f3 := h.frozen 3
  have f4 := h.frozen 4
  have f5 := h.frozen 5
  have hQ := h.lt
  have hQn : Q ≠ W.heap.size := Nat.ne_of_lt hQ
  have w1 : IntKind.u64.wrap ((cA : Int) + 1) = ((cA + 1 : Nat) : Int) := by rw [IntKind.wrap_u64]; omega
  have w2 : IntKind.u64.wrap ((cD : Int) + 1) = ((cD + 1 : Nat) : Int) := by rw [IntKind.wrap_u64]; omega
  have w3 : IntKind.u64.wrap ((cR : Int) + 1) = ((cR + 1 : Nat) : Int) := by rw [IntKind.wrap_u64]; omega
  have w4 : IntKind.u64.wrap ((cM : Int) + 1) = ((cM + 1 : Nat) : Int) := by rw [IntKind.wrap_u64]; omega
  have HT : Hid (∀ i y, Trn (fun x => x = Q) W ((W.alloc (.cells #[.int .u8 c, .int .u8 s, .int .u8 v, .bool kn, .bool ev] 76)).setCell ⟨Q, i, none⟩ y)) := fun i y => (Trn.alloc _ _ _).trans (Trn.setCell (S := fun x => x = Q) _ Q i y rfl) (fun _ _ q => q)
  have HT' : Hid (∀ i y, Trn (fun x => x = Q) W ((W.setCell ⟨Q, i, none⟩ y).alloc (.cells #[.int .u8 c, .int .u8 s, .int .u8 v, .bool kn, .bool ev] 76))) := fun i y => (Trn.setCell (S := fun x => x = Q) _ Q i y rfl).trans (Trn.alloc _ _ _) (fun _ _ q => q)
  have HB' : Hid (∀ i y, Value.oneCell' y = true → Blk 82 ((W.setCell ⟨Q, i, none⟩ y).alloc (.cells #[.int .u8 c, .int .u8 s, .int .u8 v, .bool kn, .bool ev] 76)) Q ((gateL cv K cA cD cR cM).set i y)) := fun i y hy => (h.set i y hy).alloc _
  clear h b1 b2 b3 b4
  by_cases hc : c = 0
  · have t1 : (c != 0) = false := by simpa using hc
    by_cases hv : v = 1
    · have t2 : (v == 1) = true := by simpa using hv
      have e : ∀ k, cntG c v k = if k = 0 then 1 else 0 := fun k => by unfold cntG; rw [if_neg (by simpa using hc), if_pos hv]
      rw [e 0, e 1, e 2, e 3]
      clear e hc hv
      go_enter Tryz.func28, Tryz.ntmps28
      go_wp2_with fail
      go_end0
      exact ⟨rfl, HB'.out 2 (.int .u64 ((cA + 1 : Nat) : Int)) rfl, HT'.out 2 _⟩
    · have t2 : (v == 1) = false := by simpa using hv
      by_cases hv2 : v = 2
      · have t3 : (v == 2) = true := by simpa using hv2
        have e : ∀ k, cntG c v k = if k = 2 then 1 else 0 := fun k => by unfold cntG; rw [if_neg (by simpa using hc), if_neg hv, if_pos hv2]
        rw [e 0, e 1, e 2, e 3]
        clear e hc hv hv2
        go_enter Tryz.func28, Tryz.ntmps28
        go_wp2_with fail
        go_end0
        exact ⟨rfl, HB'.out 4 (.int .u64 ((cR + 1 : Nat) : Int)) rfl, HT'.out 4 _⟩
      · have t3 : (v == 2) = false := by simpa using hv2
        have e : ∀ k, cntG c v k = if k = 1 then 1 else 0 := fun k => by unfold cntG; rw [if_neg (by simpa using hc), if_neg hv, if_neg hv2]
        rw [e 0, e 1, e 2, e 3]
        clear e hc hv hv2
        go_enter Tryz.func28, Tryz.ntmps28
        go_wp2_with fail
        go_end0
        exact ⟨rfl, HB'.out 3 (.int .u64 ((cD + 1 : Nat) : Int)) rfl, HT'.out 3 _⟩
  · have t1 : (c != 0) = true := by simpa using hc
    have e : ∀ k, cntG c v k = if k = 3 then 1 else 0 := fun k => by unfold cntG; rw [if_pos hc]
    rw [e 0, e 1, e 2, e 3]
    clear e hc
    go_enter Tryz.func28, Tryz.ntmps28
    go_wp2_with fail
    go_end0
    exact ⟨rfl, HB'.out 5 (.int .u64 ((cM + 1 : Nat) : Int)) rfl, HT'.out 5 _⟩
set_option maxRecDepth 20000 in
set_option maxHeartbeats 3200000 in
theorem gtell_any {Q K : Nat} {cv : Value} {cA cD cR cM : Nat} (W : World) (h : Blk 82 W Q (gateL cv K cA cD cR cM)) (c s v : Int) (kn ev : Bool) :
    Calls Tryz.prog 29 #[.pointer (some ⟨Q, 0, none⟩), .agg #[.int .u8 c, .int .u8 s, .int .u8 v, .bool kn, .bool ev]] W fun e w' => e = .returned (.tuple #[]) ∧ Below W.heap.size W w' := by
  have c6 := h.cell 6 _ rfl
  have hQ := h.lt
  have hQn : Q ≠ W.heap.size := Nat.ne_of_lt hQ
  have hnf := eql_nil_func
  clear h
  go_enter Tryz.func29, Tryz.ntmps29
  go_wp2_with fail
  refine bodyPost_ret (v := .tuple #[]) (results_none rfl _ _ _) rfl ?_
  exact ⟨rfl, (Below.refl _ _).alloc (Nat.le_refl _) _⟩
end Go.Proofs.YtclpnafiiobfhabGreatDoor
namespace Go.Proofs.YtclpnafiiobfhabGreatDoor
open Go.RowKit
set_option linter.unusedVariables false
set_option linter.unusedSimpArgs false

/-- an event -/
structure Ev where
  c : Int
  s : Int
  v : Int
  kn : Bool
  ev : Bool
abbrev Ev.l (e : Ev) : List Value := [.int .u8 e.c, .int .u8 e.s, .int .u8 e.v, .bool e.kn, .bool e.ev]
/-- the header of a frame that is fine -/
def hdOf (d : ByteArray) : Hd :=
  let p := nth d 23
  ⟨numv d 26 4, numv d 30 4, p, if p = 6 ∨ p = 17 then numv d 34 2 else if p = 1 ∧ (nth d 34 = 8 ∨ nth d 34 = 0) then numv d 38 2 else 0, if p = 6 ∨ p = 17 then numv d 36 2 else if p = 1 ∧ (nth d 34 = 8 ∨ nth d 34 = 0) then numv d 38 2 else 0, if p = 6 then nth d 47 % 64 else if p = 1 then nth d 34 else 0⟩
theorem hdOf_cells (d : ByteArray) : hdr d = (hdOf d).cells := rfl
/-- what becomes of a frame: the event, and the flows -/
def evG (R : Option Bk) (room now : Nat) (F : List Fl) (d : ByteArray) (i : Int) : Ev × List Fl :=
  if cls d = 0 then
    (if verdG R d i (lookS F (hdOf d)) = 1 then (⟨0, lookS F (hdOf d), 1, (findD F (hdOf d)).isSome, (keepS room now F (hdOf d)).1⟩, (keepS room now F (hdOf d)).2)
    else (⟨0, lookS F (hdOf d), verdG R d i (lookS F (hdOf d)), (findD F (hdOf d)).isSome, false⟩, F))
  else (⟨cls d, 0, 0, false, false⟩, F)
theorem keep_any {K room now births : Nat} {O : Nat → Prop} {F : List Fl} (w : World) (h : Kps w O K room now births F) (hro : 1 ≤ room) (hbi : births + 1 < 18446744073709551616) (hd : Hd) (hw : hd.Wf) :
    Calls Tryz.prog 43 #[.pointer (some ⟨K, 0, none⟩), .agg hd.cells] w fun e w' => e = .returned (.bool (keepS room now F hd).1) ∧ ∃ O' b', Kps w' O' K room now b' (keepS room now F hd).2 ∧ Trn O w w' ∧ (∀ y, O' y → O y ∨ w.heap.size ≤ y) ∧ b' ≤ births + 1 := by
  by_cases hq : findD F hd = none
  · cases hfr : freshH hd with
    | true => exact keep_new w h hro hbi hd hw hq hfr
    | false => exact keep_not w h hro hbi hd hw hq hfr
  · exact keep_known w h hro hbi hd hw hq
theorem look_le (F : List Fl) (h : Hd) : lookS F h ≤ 2 := by
  unfold lookS stateF
  split
  · split <;> omega
  · split <;> omega
theorem blk_five {t : TypeId} {w : World} {g : Nat} {z0 z1 z2 z3 z4 : Value} (x0 x1 x2 x3 x4 : Value) (h : w.heap[g]? = some (.cells #[z0, z1, z2, z3, z4] t (0, 0))) (hx : ∀ v ∈ [x0, x1, x2, x3, x4], v.oneCell' = true) : Blk t (((((w.setCell ⟨g, 0, none⟩ x0).setCell ⟨g, 1, none⟩ x1).setCell ⟨g, 2, none⟩ x2).setCell ⟨g, 3, none⟩ x3).setCell ⟨g, 4, none⟩ x4) g [x0, x1, x2, x3, x4] := by
  have e : ∀ (w : World) (L : List Value) (i : Nat) (x : Value), w.heap[g]? = some (.cells L.toArray t (0, 0)) → (w.setCell ⟨g, i, none⟩ x).heap[g]? = some (.cells (L.set i x).toArray t (0, 0)) := fun w L i x h => by simp [World.setCell, Array.getElem?_modify, h]
  exact ⟨e _ _ 4 x4 (e _ _ 3 x3 (e _ _ 2 x2 (e _ _ 1 x1 (e _ [z0, z1, z2, z3, z4] 0 x0 h)))), hx⟩
theorem trn_five (S : Nat → Prop) (w : World) (g : Nat) (x0 x1 x2 x3 x4 : Value) (hg : S g) : Trn S w (((((w.setCell ⟨g, 0, none⟩ x0).setCell ⟨g, 1, none⟩ x1).setCell ⟨g, 2, none⟩ x2).setCell ⟨g, 3, none⟩ x3).setCell ⟨g, 4, none⟩ x4) :=
  ((((Trn.setCell w g 0 x0 hg).trans (Trn.setCell _ g 1 x1 hg) (fun _ _ q => q)).trans (Trn.setCell _ g 2 x2 hg) (fun _ _ q => q)).trans (Trn.setCell _ g 3 x3 hg) (fun _ _ q => q)).trans (Trn.setCell _ g 4 x4 hg) (fun _ _ q => q)
theorem sizeEv : (Tryz.prog.info? 76).map (·.size) = some 5 := by kernel_rfl
theorem judge_results (tmps : Array Value) (W : World) (g : Nat) (L : List Value) (h4 : tmps.getD 6 undef = .pointer (some ⟨g, 0, none⟩)) (hr : Blk 76 W g L) (hl : L.length = 5) : (results Tryz.f27 tmps).run Tryz.prog W = .ok (.agg L.toArray) W := by
  have h4' : tmps[6]?.getD undef = .pointer (some ⟨g, 0, none⟩) := by simpa using h4
  have hld : (loadVar 76 ⟨g, 0, none⟩).run Tryz.prog W = .ok (.agg L.toArray) W := run_loadVar_row W g _ _ L.toArray (0, 0) _ hr.1 Tryz.underlying76 rfl (by rw [List.size_toArray, hl]; exact sizeEv)
  simp [results, Tryz.results27, h4', asAddr, hld]
/-- a keeper outside the turned blocks -/
theorem Kps.trn {W W' : World} {O : Nat → Prop} {K room now births : Nat} {F : List Fl} (h : Kps W O K room now births F) {S : Nat → Prop} (ht : Trn S W W') (hs : ∀ x, O x → ¬ S x) : Kps W' O K room now births F := by
  obtain ⟨T, mb, v, n, f, G, h, rfl⟩ := h
  have e : ∀ y, Ows T mb v y → W'.heap[y]? = W.heap[y]? := fun y q => ht.block y (h.tab.own_lt y q) (hs y (.inr q))
  refine ⟨T, mb, v, n, f, G, ⟨h.blk.trn ht (hs K (.inl rfl)), ⟨⟨(e T (.inl rfl)).trans h.tab.blk.1, h.tab.blk.2⟩, ?_, h.tab.map.same (e mb (.inr (.inl rfl))), h.tab.wf, h.tab.ns, h.tab.tm, h.tab.tr, h.tab.le, h.tab.big⟩, h.rel, h.own, h.now⟩, rfl⟩
  rcases h.tab.row with q | ⟨g, cap, rfl, q⟩
  · exact .inl q
  · exact .inr ⟨g, cap, rfl, q.same (e g (.inr (.inr rfl)))⟩
end Go.Proofs.YtclpnafiiobfhabGreatDoor
namespace Go.Proofs.YtclpnafiiobfhabGreatDoor
open Go.RowKit
set_option linter.unusedVariables false
set_option linter.unusedSimpArgs false

theorem hdOf_wf (d : ByteArray) : (hdOf d).Wf := by
  have n4 : ∀ k, 0 ≤ numv d k 4 ∧ numv d k 4 < 4294967296 := fun k => by have := numv_bd4 d k 4 (by omega); omega
  have n2 : ∀ k, 0 ≤ numv d k 2 ∧ numv d k 2 < 65536 := fun k => by have := numv_bd2 d k; omega
  have n1 : ∀ k, 0 ≤ nth d k ∧ nth d k < 256 := fun k => by have := nth_bd d k; omega
  unfold hdOf
  refine ⟨n4 26, n4 30, n1 23, ?_, ?_, ?_⟩
  · dsimp only
    split
    · exact n2 34
    · split
      · exact n2 38
      · omega
  · dsimp only
    split
    · exact n2 36
    · split
      · exact n2 38
      · omega
  · dsimp only
    have a := n1 47
    have b := n1 34
    split
    · omega
    · split <;> omega
set_option maxRecDepth 20000 in
set_option maxHeartbeats 6400000 in
theorem gjudge_fine {Q K : Nat} {O : Nat → Prop} {cv : Value} {R : Option Bk} {room now births : Nat} {F : List Fl} {cA cD cR cM : Nat} (W : World) (hL : Laid W) (h : GateAt W Q K O cv R room now births F cA cD cR cM) (hbi : births + 1 < 18446744073709551616) (d : ByteArray) (fb fc : Nat) (i : Int) (hd : Row W fb 0 d) (hfb : fb < W.heap.size) (hdz : d.size ≤ 300000) (hfc : d.size ≤ fc) (hfm : fc ≤ maxLen) (hi : 0 ≤ i ∧ i ≤ 255) (hc : cls d = 0) :
    Calls Tryz.prog 27 #[.pointer (some ⟨Q, 0, none⟩), .int .u8 i, .slice (some ⟨fb, 0, none⟩) d.size fc] W fun e w' => e = .returned (.agg (evG R room now F d i).1.l.toArray) ∧ (∃ O' b', Kps w' O' K room now b' (evG R room now F d i).2 ∧ Trn O W w' ∧ (∀ y, O' y → O y ∨ W.heap.size ≤ y) ∧ b' ≤ births + 1) := by
  have h34 : 34 ≤ d.size := (cls_zero d hc).1
  obtain ⟨hh, hhe⟩ : ∃ hh, hdOf d = hh := ⟨_, rfl⟩
  have hw : hh.Wf := by rw [← hhe]; exact hdOf_wf d
  have HE : Hid (evG R room now F d i = if verdG R d i (lookS F hh) = 1 then (⟨0, lookS F hh, 1, (findD F hh).isSome, (keepS room now F hh).1⟩, (keepS room now F hh).2) else (⟨0, lookS F hh, verdG R d i (lookS F hh), (findD F hh).isSome, false⟩, F)) := by show evG R room now F d i = _; unfold evG; rw [if_pos hc, hhe]
  have hst := look_le F hh
  have HVB : Hid (verdG R d i (lookS F hh) = verdG R d i (lookS F hh)) := rfl
  obtain ⟨W1, hW1⟩ : ∃ W1, W.alloc (.cells #[.int .u8 0, .int .u8 0, .int .u8 0, .bool false, .bool false] 76) = W1 := ⟨_, rfl⟩
  have HW1 : Hid (W.alloc (.cells #[.int .u8 0, .int .u8 0, .int .u8 0, .bool false, .bool false] 76) = W1) := hW1
  have B1 : Below W.heap.size W W1 := by rw [← hW1]; exact (Below.refl _ _).alloc (Nat.le_refl _) _
  have z1 : W1.heap.size = W.heap.size + 1 := by rw [← hW1]; simp
  have HR1 : Hid (Blk 76 W1 W.heap.size [.int .u8 0, .int .u8 0, .int .u8 0, .bool false, .bool false]) := by rw [← hW1]; exact Blk.made W _ [.int .u8 0, .int .u8 0, .int .u8 0, .bool false, .bool false] (list_one rfl)
  have HPA : Hid (Calls Tryz.prog 40 #[.slice (some ⟨fb, 0, none⟩) d.size fc] W1 fun e w' => e = .returned (.tuple #[.agg hh.cells, .int .u8 0]) ∧ Below W1.heap.size W1 w') := by
    have z := frParse_any d fb 0 fc W1 (by unfold maxLen; omega) (by rw [← hW1]; exact hd.alloc hfb _) (by omega)
    rw [show parsedAs d = .tuple #[.agg (hdOf d).cells, .int .u8 0] from by simp [parsedAs, hc, hdOf_cells], hhe] at z
    exact z
  have HG : Hid (GateAt W Q K O cv R room now births F cA cD cR cM) := h
  have HOL : Hid (∀ y, O y → y < W.heap.size) := h.keeps.lt
  have HP : Hid (births + 1 < 18446744073709551616 ∧ hh.Wf ∧ 1 ≤ room) := ⟨hbi, hw, h.cap⟩
  have HB1 : Hid (Below W.heap.size W W1) := B1
  have HZ1 : Hid (W1.heap.size = W.heap.size + 1) := z1
  have HVD : Hid (∀ Wx, Below W.heap.size W Wx → Calls Tryz.prog 42 #[.pointer (some ⟨Q, 0, none⟩), .int .u8 i, .slice (some ⟨fb, 0, none⟩) d.size fc, .int .u8 (lookS F hh : Int)] Wx fun e w' => e = .returned (.int .u8 (verdG R d i (lookS F hh) : Int)) ∧ Below Wx.heap.size Wx w') := fun Wx hb => gverdict_any W Wx (hL.below hb) (HG.out.below hb) d fb fc i (lookS F hh : Int) (fun j hj => (hb.cell (p := ⟨fb, 0 + j, none⟩) hfb).trans (hd j hj)) (Nat.lt_of_lt_of_le hfb hb.size) h34 hdz hfc hfm hi (by omega)
  obtain ⟨st, hstv⟩ : ∃ st : Int, (lookS F hh : Int) = st := ⟨_, rfl⟩
  obtain ⟨v, hv⟩ : ∃ v : Int, (verdG R d i (lookS F hh) : Int) = v := ⟨_, rfl⟩
  obtain ⟨kn, hkn⟩ : ∃ kn, (findD F hh).isSome = kn := ⟨_, rfl⟩
  rw [hv, hstv] at HVD
  have HVV : Hid ((verdG R d i (lookS F hh) : Int) = v ∧ (lookS F hh : Int) = st ∧ (findD F hh).isSome = kn) := ⟨hv, hstv, hkn⟩
  have HLK : Hid (∀ Wx, Below W.heap.size W Wx → Calls Tryz.prog 41 #[.pointer (some ⟨K, 0, none⟩), .agg hh.cells] Wx fun e w' => e = .returned (.tuple #[.int .u8 st, .bool kn]) ∧ Below Wx.heap.size Wx w') := fun Wx hb => by
    have z := look_any Wx (HG.out.keeps.below hb) hh hw
    rw [hstv, hkn] at z
    exact z
  dsimp only [Hd.cells, Ev.l] at HPA HLK ⊢
  generalize evG R room now F d i = EV at HE ⊢
  clear hW1 hhe hc hd hfb hdz hfc hfm h hL hbi hw hst B1 z1 hv hstv hkn h34
  go_enter Tryz.func27, Tryz.ntmps27
  go_upto_region 1 with fail
  rw [HW1.out]
  go_upto_region 4 with (go_at_call 40; refine HPA.out.mono ?_; rintro e w2 ⟨rfl, hb2⟩; have HB2 : Hid (Below W1.heap.size W1 w2) := hb2; clear hb2)
  obtain ⟨W3, hW3⟩ : ∃ W3, w2.alloc (.cells #[.int .u32 hh.a, .int .u32 hh.b, .int .u8 hh.p, .int .u16 hh.s, .int .u16 hh.d, .int .u8 hh.f] 28) = W3 := ⟨_, rfl⟩
  obtain ⟨g7, hg7⟩ : ∃ g7, w2.heap.size = g7 := ⟨_, rfl⟩
  rw [hW3, hg7]
  have HB13 : Hid (Below W1.heap.size W1 W3) := by rw [← hW3]; exact HB2.out.alloc HB2.out.size _
  have HB3 : Hid (Below W.heap.size W W3) := HB1.out.trans (HB13.out.mono HB1.out.size)
  have HH3 : Hid (Blk 28 W3 g7 hh.l) := by rw [← hW3, ← hg7]; exact Blk.made w2 _ hh.l hh.one
  have HR3 : Hid (Blk 76 W3 W.heap.size [.int .u8 0, .int .u8 0, .int .u8 0, .bool false, .bool false]) := HR1.out.below HB13.out HR1.out.lt
  have HG3 : Hid (GateAt W3 Q K O cv R room now births F cA cD cR cM) := HG.out.below HB3.out
  have HL3 : Hid (∀ Wx, Below W3.heap.size W3 Wx → Calls Tryz.prog 41 #[.pointer (some ⟨K, 0, none⟩), .agg #[.int .u32 hh.a, .int .u32 hh.b, .int .u8 hh.p, .int .u16 hh.s, .int .u16 hh.d, .int .u8 hh.f]] Wx fun e w' => e = .returned (.tuple #[.int .u8 st, .bool kn]) ∧ Below W3.heap.size W3 w') := fun Wx hb => (HLK.out Wx (HB3.out.trans (hb.mono HB3.out.size))).mono (fun e w' z => ⟨z.1, hb.trans (z.2.mono hb.size)⟩)
  have q1 := HG3.out.blk.cell 1 _ rfl
  have h0 := HH3.out.cell 0 _ rfl
  have h1 := HH3.out.cell 1 _ rfl
  have h2 := HH3.out.cell 2 _ rfl
  have h3 := HH3.out.cell 3 _ rfl
  have h4 := HH3.out.cell 4 _ rfl
  have h5 := HH3.out.cell 5 _ rfl
  clear hW3 hg7
  go_cut [9, 10] from 21 to 29 (fun x y w' => x = .int .u8 st ∧ y = .bool kn ∧ Below W3.heap.size W3 w')
  case first =>
    go_region_with (go_at_call 41; refine (HL3.out _ (by first | with_reducible assumption | with_reducible exact Below.drew (Below.refl _ _) | with_reducible exact Below.drew (by with_reducible assumption) | with_reducible exact Below.refl _ _)).mono ?_; rintro e w4 ⟨rfl, hb4⟩)
    all_goals
      go_wp2_with fail
      go_meet
      exact ⟨rfl, rfl, hb4⟩
  obtain ⟨rfl, rfl, hb4⟩ := hcut
  have HB4 : Hid (Below W3.heap.size W3 wc) := hb4
  have HV4 : Hid (Calls Tryz.prog 42 #[.pointer (some ⟨Q, 0, none⟩), .int .u8 i, .slice (some ⟨fb, 0, none⟩) d.size fc, .int .u8 st] wc _) := HVD.out wc (HB3.out.trans (hb4.mono HB3.out.size))
  clear hb4 q1 h0 h1 h2 h3 h4 h5
  go_upto_region 6 with (go_at_call 42; refine HV4.out.mono ?_; rintro e w5 ⟨rfl, hb5⟩; have HB5 : Hid (Below wc.heap.size wc w5) := hb5; clear hb5)
  obtain ⟨W6, hW6⟩ : ∃ W6, w5.alloc (.cells #[.int .u8 0, .int .u8 st, .int .u8 v, .bool kn, .bool false] 76) = W6 := ⟨_, rfl⟩
  obtain ⟨g11, hg11⟩ : ∃ g11, w5.heap.size = g11 := ⟨_, rfl⟩
  rw [hW6, hg11]
  have HB6 : Hid (Below W3.heap.size W3 W6) := by rw [← hW6]; exact (HB4.out.trans (HB5.out.mono HB4.out.size)).alloc (Nat.le_trans HB4.out.size HB5.out.size) _
  have HE6 : Hid (Blk 76 W6 g11 [.int .u8 0, .int .u8 st, .int .u8 v, .bool kn, .bool false]) := by rw [← hW6, ← hg11]; exact Blk.made w5 _ [.int .u8 0, .int .u8 st, .int .u8 v, .bool kn, .bool false] (list_one rfl)
  have HR6 : Hid (Blk 76 W6 W.heap.size [.int .u8 0, .int .u8 0, .int .u8 0, .bool false, .bool false]) := HR3.out.below HB6.out HR3.out.lt
  have HBW6 : Hid (Below W.heap.size W W6) := HB3.out.trans (HB6.out.mono HB3.out.size)
  have hgr : W.heap.size < g11 := by have a := HB13.out.size; have b := HB4.out.size; have c := HB5.out.size; have z := HZ1.out; omega
  have HGR : Hid (W.heap.size < g11) := hgr
  have hgn : W.heap.size ≠ g11 := Nat.ne_of_lt hgr
  clear hW6 hg11
  have e0 := HE6.out.cell 0 _ rfl
  have e1 := HE6.out.cell 1 _ rfl
  have e2 := HE6.out.cell 2 _ rfl
  have e3 := HE6.out.cell 3 _ rfl
  have e4 := HE6.out.cell 4 _ rfl
  have r0 := HR6.out.cell 0 _ rfl
  have r1 := HR6.out.cell 1 _ rfl
  have r2 := HR6.out.cell 2 _ rfl
  have r3 := HR6.out.cell 3 _ rfl
  have r4 := HR6.out.cell 4 _ rfl
  have f0 := HR6.out.frozen 0
  have f1 := HR6.out.frozen 1
  have f2 := HR6.out.frozen 2
  have f3 := HR6.out.frozen 3
  have f4 := HR6.out.frozen 4
  by_cases hv1 : v = 1
  · have t1 : (v == 1) = true := by simpa using hv1
    have HEV : Hid (EV = (⟨0, st, v, kn, (keepS room now F hh).1⟩, (keepS room now F hh).2)) := by
      show EV = _
      rw [HE.out, if_pos (by have z := HVV.out.1; omega), HVV.out.2.1, HVV.out.2.2, hv1]
    have HKP : Hid (∀ Wx, Below W6.heap.size W6 Wx → Calls Tryz.prog 43 #[.pointer (some ⟨K, 0, none⟩), .agg #[.int .u32 hh.a, .int .u32 hh.b, .int .u8 hh.p, .int .u16 hh.s, .int .u16 hh.d, .int .u8 hh.f]] Wx fun e w' => e = .returned (.bool (keepS room now F hh).1) ∧ (∃ O' b', Kps w' O' K room now b' (keepS room now F hh).2 ∧ Trn O Wx w' ∧ (∀ y, O' y → O y ∨ Wx.heap.size ≤ y) ∧ b' ≤ births + 1) ∧ Below W6.heap.size W6 Wx ∧ w'.cell? ⟨g11, 4, none⟩ = some (.bool false) ∧ w'.frozen? ⟨g11, 4, none⟩ = false) := fun Wx hb => (keep_any Wx (HG3.out.keeps.below (HB6.out.trans (hb.mono HB6.out.size))) HP.out.2.2 HP.out.1 hh HP.out.2.1).mono (fun e w' z => by
      obtain ⟨O', b', q1, q2, q3, q4⟩ := z.2
      have hx : Wx.heap[g11]? = W6.heap[g11]? := hb.block g11 HE6.out.lt
      have hy : w'.heap[g11]? = Wx.heap[g11]? := q2.block g11 (Nat.lt_of_lt_of_le HE6.out.lt hb.size) (fun q => by have a := HOL.out _ q; have b := HGR.out; omega)
      exact ⟨z.1, ⟨O', b', q1, q2, q3, q4⟩, hb, (World.cell?_of_block (a := ⟨g11, 4, none⟩) (hy.trans hx)).trans e4, (World.frozen?_of_block (a := ⟨g11, 4, none⟩) (hy.trans hx)).trans (HE6.out.frozen 4)⟩)
    generalize (keepS room now F hh).1 = evv at HEV HKP
    generalize (keepS room now F hh).2 = F2 at HEV HKP
    have q1 := (HG3.out.below HB6.out).blk.cell 1 _ rfl
    have h0 := (HH3.out.below HB6.out HH3.out.lt).cell 0 _ rfl
    have h1 := (HH3.out.below HB6.out HH3.out.lt).cell 1 _ rfl
    have h2 := (HH3.out.below HB6.out HH3.out.lt).cell 2 _ rfl
    have h3 := (HH3.out.below HB6.out HH3.out.lt).cell 3 _ rfl
    have h4 := (HH3.out.below HB6.out HH3.out.lt).cell 4 _ rfl
    have h5 := (HH3.out.below HB6.out HH3.out.lt).cell 5 _ rfl
    clear hv1 f0 f1 f2 f3 f4 r0 r1 r2 r3 r4
    go_upto_region 7 with fail
    go_cut [48] from 42 to 47 (fun _ w' => ∃ Wx wk, Below W6.heap.size W6 Wx ∧ (∃ O' b', Kps wk O' K room now b' F2 ∧ Trn O Wx wk ∧ (∀ y, O' y → O y ∨ Wx.heap.size ≤ y) ∧ b' ≤ births + 1) ∧ w' = wk.setCell ⟨g11, 4, none⟩ (.bool evv))
    case first =>
      go_region_with (go_at_call 43; refine (HKP.out _ (by first | with_reducible assumption | with_reducible exact Below.drew (Below.refl _ _) | with_reducible exact Below.drew (by with_reducible assumption) | with_reducible exact Below.refl _ _)).mono ?_; rintro e w8 ⟨rfl, hk8, hb8, c8, f8⟩; have HK8 : Hid (_ ∧ _) := ⟨hk8, hb8⟩; clear hk8 hb8)
      all_goals
        go_wp2_with fail
        go_meet
        exact ⟨_, _, HK8.out.2, HK8.out.1, rfl⟩
    obtain ⟨Wx, wk, hbx, ⟨O', b', k1, k2, k3, k4⟩, hwc⟩ := hcut
    have HK9 : Hid (Below W6.heap.size W6 Wx ∧ Kps wk O' K room now b' F2 ∧ Trn O Wx wk ∧ (∀ y, O' y → O y ∨ Wx.heap.size ≤ y) ∧ b' ≤ births + 1) := ⟨hbx, k1, k2, k3, k4⟩
    have hge : wk.heap[g11]? = W6.heap[g11]? := (k2.block g11 (Nat.lt_of_lt_of_le HE6.out.lt hbx.size) (fun q => by have a := HOL.out _ q; omega)).trans (hbx.block g11 HE6.out.lt)
    have hgr' : wk.heap[W.heap.size]? = W6.heap[W.heap.size]? := (k2.block W.heap.size (Nat.lt_of_lt_of_le HR6.out.lt hbx.size) (fun q => by have a := HOL.out _ q; omega)).trans (hbx.block W.heap.size HR6.out.lt)
    have HEW : Hid (Blk 76 wc g11 [.int .u8 0, .int .u8 st, .int .u8 v, .bool kn, .bool evv]) := by
      rw [hwc]
      exact Blk.set (L := [.int .u8 0, .int .u8 st, .int .u8 v, .bool kn, .bool false]) ⟨hge.trans HE6.out.1, HE6.out.2⟩ 4 (.bool evv)
    have HRW : Hid (Blk 76 wc W.heap.size [.int .u8 0, .int .u8 0, .int .u8 0, .bool false, .bool false]) := by
      rw [hwc]
      exact Blk.other ⟨hgr'.trans HR6.out.1, HR6.out.2⟩ _ (fun q => hgn q.symm)
    have HTW : Hid (Trn (fun x => x = g11) wk wc) := by rw [hwc]; exact Trn.setCell wk g11 4 _ rfl
    clear hbx k1 k2 k3 k4 hge hgr' hwc e0 e1 e2 e3 e4 q1 h0 h1 h2 h3 h4 h5
    have e0 := HEW.out.cell 0 _ rfl
    have e1 := HEW.out.cell 1 _ rfl
    have e2 := HEW.out.cell 2 _ rfl
    have e3 := HEW.out.cell 3 _ rfl
    have e4 := HEW.out.cell 4 _ rfl
    have r0 := HRW.out.cell 0 _ rfl
    have r1 := HRW.out.cell 1 _ rfl
    have r2 := HRW.out.cell 2 _ rfl
    have r3 := HRW.out.cell 3 _ rfl
    have r4 := HRW.out.cell 4 _ rfl
    have f0 := HRW.out.frozen 0
    have f1 := HRW.out.frozen 1
    have f2 := HRW.out.frozen 2
    have f3 := HRW.out.frozen 3
    have f4 := HRW.out.frozen 4
    go_wp2_with fail
    have hev := HEV.out
    subst hev
    have hb := blk_five (.int .u8 0) (.int .u8 st) (.int .u8 v) (.bool kn) (.bool evv) HRW.out.1 (list_one rfl)
    refine bodyPost_ret (v := .agg [.int .u8 0, .int .u8 st, .int .u8 v, .bool kn, .bool evv].toArray) (judge_results _ _ _ _ rfl hb rfl) rfl ⟨rfl, ?_⟩
    obtain ⟨hbx, k1, k2, k3, k4⟩ := HK9.out
    have z6 := HBW6.out.size
    have zx := hbx.size
    have zk := k2.size
    have tw : Trn (fun x => x = g11 ∨ x = W.heap.size) wk _ := (HTW.out.mono (fun x _ q => .inl q)).trans (trn_five (fun x => x = g11 ∨ x = W.heap.size) wc W.heap.size (.int .u8 0) (.int .u8 st) (.int .u8 v) (.bool kn) (.bool evv) (.inr rfl)) (fun _ _ q => q)
    have hr6 := HR6.out.lt
    have he6 := HE6.out.lt
    refine ⟨O', b', k1.trn tw (fun x q => ?_), ?_, fun y q => ?_, k4⟩
    · rcases k3 x q with z | z
      · have a := HOL.out x z; have b := HGR.out; omega
      · omega
    · exact ((Trn.below HBW6.out).trans ((Trn.below hbx).trans k2 (fun _ _ q => q)) (fun _ _ q => q)).trans tw (fun m hm q => by have b := HGR.out; omega)
    · rcases k3 y q with z | z
      · exact .inl z
      · exact .inr (by omega)
  · have t1 : (v == 1) = false := by simpa using hv1
    have HEV : Hid (EV = (⟨0, st, v, kn, false⟩, F)) := by
      show EV = _
      rw [HE.out, if_neg (by have z := HVV.out.1; omega), HVV.out.1, HVV.out.2.1, HVV.out.2.2]
    clear hv1
    go_wp2_with fail
    have hev := HEV.out
    subst hev
    have hb := blk_five (.int .u8 0) (.int .u8 st) (.int .u8 v) (.bool kn) (.bool false) HR6.out.1 (list_one rfl)
    refine bodyPost_ret (v := .agg [.int .u8 0, .int .u8 st, .int .u8 v, .bool kn, .bool false].toArray) (judge_results _ _ _ _ rfl hb rfl) rfl ⟨rfl, ?_⟩
    have tw : Trn (fun x => x = W.heap.size) W6 _ := trn_five (fun x => x = W.heap.size) W6 W.heap.size (.int .u8 0) (.int .u8 st) (.int .u8 v) (.bool kn) (.bool false) rfl
    refine ⟨O, births, (HG.out.keeps.below HBW6.out).trn tw (fun x q => by have a := HOL.out x q; omega), (Trn.below HBW6.out).trans tw (fun m hm q => by omega), fun y q => .inl q, by omega⟩
end Go.Proofs.YtclpnafiiobfhabGreatDoor
namespace Go.Proofs.YtclpnafiiobfhabGreatDoor
open Go.RowKit
set_option linter.unusedVariables false
set_option linter.unusedSimpArgs false

set_option maxRecDepth 20000 in
set_option maxHeartbeats 6400000 in
theorem gframe_of {Q K : Nat} {O : Nat → Prop} {cv : Value} {R : Option Bk} {room now births : Nat} {F : List Fl} {cA cD cR cM : Nat} (W : World) (h : GateAt W Q K O cv R room now births F cA cD cR cM) (b1 : cA + 1 < 18446744073709551616) (b2 : cD + 1 < 18446744073709551616) (b3 : cR + 1 < 18446744073709551616) (b4 : cM + 1 < 18446744073709551616) (d : ByteArray) (fb fc : Nat) (i : Int) (hj : Calls Tryz.prog 27 #[.pointer (some ⟨Q, 0, none⟩), .int .u8 i, .slice (some ⟨fb, 0, none⟩) d.size fc] W fun e w' => e = .returned (.agg (evG R room now F d i).1.l.toArray) ∧ (∃ O' b', Kps w' O' K room now b' (evG R room now F d i).2 ∧ Trn O W w' ∧ (∀ y, O' y → O y ∨ W.heap.size ≤ y) ∧ b' ≤ births + 1)) :
    Calls Tryz.prog 15 #[.pointer (some ⟨Q, 0, none⟩), .int .u8 i, .slice (some ⟨fb, 0, none⟩) d.size fc] W fun e w' => e = .returned (.int .u8 (evG R room now F d i).1.v) ∧ ∃ O' b', GateAt w' Q K O' cv R room now b' (evG R room now F d i).2 (cA + cntG (evG R room now F d i).1.c (evG R room now F d i).1.v 0) (cD + cntG (evG R room now F d i).1.c (evG R room now F d i).1.v 1) (cR + cntG (evG R room now F d i).1.c (evG R room now F d i).1.v 2) (cM + cntG (evG R room now F d i).1.c (evG R room now F d i).1.v 3) ∧ Trn (fun x => x = Q ∨ O x) W w' ∧ (∀ y, O' y → O y ∨ W.heap.size ≤ y) ∧ b' ≤ births + 1 := by
  have HJ : Hid (Calls _ _ _ W _) := hj
  have HG : Hid (GateAt W Q K O cv R room now births F cA cD cR cM) := h
  have HN : Hid (cA + 1 < 18446744073709551616 ∧ cD + 1 < 18446744073709551616 ∧ cR + 1 < 18446744073709551616 ∧ cM + 1 < 18446744073709551616) := ⟨b1, b2, b3, b4⟩
  generalize evG R room now F d i = EV at HJ ⊢
  obtain ⟨⟨ec, es, ev, ek, ee⟩, F2⟩ := EV
  dsimp only [Ev.l] at HJ ⊢
  clear h hj b1 b2 b3 b4
  go_enter Tryz.func15, Tryz.ntmps15
  go_upto_region 2 with (go_at_call 27; refine HJ.out.mono ?_; rintro e w2 ⟨rfl, hk2⟩; have HK2 : Hid (_) := hk2; clear hk2)
  obtain ⟨O', b', k1, k2, k3, k4⟩ := HK2.out
  obtain ⟨W3, hW3⟩ : ∃ W3, w2.alloc (.cells #[.int .u8 ec, .int .u8 es, .int .u8 ev, .bool ek, .bool ee] 76) = W3 := ⟨_, rfl⟩
  obtain ⟨g7, hg7⟩ : ∃ g7, w2.heap.size = g7 := ⟨_, rfl⟩
  rw [hW3, hg7]
  have B3 : Below w2.heap.size w2 W3 := by rw [← hW3]; exact (Below.refl _ _).alloc (Nat.le_refl _) _
  have HE3 : Hid (Blk 76 W3 g7 [.int .u8 ec, .int .u8 es, .int .u8 ev, .bool ek, .bool ee]) := by rw [← hW3, ← hg7]; exact Blk.made w2 _ [.int .u8 ec, .int .u8 es, .int .u8 ev, .bool ek, .bool ee] (list_one rfl)
  have HQ3 : Hid (Blk 82 W3 Q (gateL cv K cA cD cR cM)) := (HG.out.blk.trn k2 HG.out.own).below B3 (HG.out.blk.trn k2 HG.out.own).lt
  have hQW := HG.out.blk.lt
  have hOQ : ¬ O' Q := fun q => by
    rcases k3 Q q with z | z
    · exact HG.out.own z
    · omega
  have HK3 : Hid (Kps W3 O' K room now b' F2 ∧ Trn O W W3 ∧ (∀ y, O' y → O y ∨ W.heap.size ≤ y) ∧ b' ≤ births + 1 ∧ ¬ O' Q) := ⟨k1.below B3, k2.trans (Trn.below B3) (fun _ _ q => q), k3, k4, hOQ⟩
  have hgQ : g7 ≠ Q := by have a := k2.size; omega
  have HCT : Hid (Calls _ _ _ W3 _) := gcount_any W3 HQ3.out ec es ev ek ee HN.out.1 HN.out.2.1 HN.out.2.2.1 HN.out.2.2.2
  have e0 := HE3.out.cell 0 _ rfl
  have e1 := HE3.out.cell 1 _ rfl
  have e2 := HE3.out.cell 2 _ rfl
  have e3 := HE3.out.cell 3 _ rfl
  have e4 := HE3.out.cell 4 _ rfl
  clear k1 k2 k3 k4 hW3 hg7 B3 hOQ
  go_upto_region 3 with (go_at_call 28; refine HCT.out.mono ?_; rintro e w4 ⟨rfl, hb4, ht4⟩; have HQ4 : Hid (_ ∧ _) := ⟨hb4, ht4⟩; clear hb4 ht4)
  have HE4 : Hid (Blk 76 w4 g7 [.int .u8 ec, .int .u8 es, .int .u8 ev, .bool ek, .bool ee]) := HE3.out.trn HQ4.out.2 hgQ
  have HTL : Hid (Calls _ _ _ w4 _) := gtell_any w4 HQ4.out.1 ec es ev ek ee
  have e0' := HE4.out.cell 0 _ rfl
  have e1' := HE4.out.cell 1 _ rfl
  have e2' := HE4.out.cell 2 _ rfl
  have e3' := HE4.out.cell 3 _ rfl
  have e4' := HE4.out.cell 4 _ rfl
  clear e0 e1 e2 e3 e4
  go_wp2_with (go_at_call 29; refine HTL.out.mono ?_; rintro e w5 ⟨rfl, hb5⟩; have HB5 : Hid (Below w4.heap.size w4 w5) := hb5; have e2'' := (hb5.cell (p := ⟨g7, 2, none⟩) HE4.out.lt).trans e2'; clear hb5)
  go_ret
  obtain ⟨k1, k2, k3, k4, k5⟩ := HK3.out
  have t4 := HQ4.out.2
  have tt : Trn (fun x => x = Q ∨ O x) W w5 := ((k2.mono (fun x _ q => .inr q)).trans (t4.mono (fun x _ q => .inl q)) (fun _ _ q => q)).trans (Trn.below HB5.out) (fun _ _ q => q)
  refine ⟨rfl, O', b', ⟨HQ4.out.1.below HB5.out HQ4.out.1.lt, HG.out.code.trn tt (fun x hx q => ?_), (k1.trn t4 (fun x q z => k5 (z ▸ q))).below HB5.out, k5, HG.out.cap⟩, tt, k3, k4⟩
  rcases q with q | q
  · exact .inl q
  · rcases k3 x q with z | z
    · exact .inr z
    · omega
theorem gframe_fine {Q K : Nat} {O : Nat → Prop} {cv : Value} {R : Option Bk} {room now births : Nat} {F : List Fl} {cA cD cR cM : Nat} (W : World) (hL : Laid W) (h : GateAt W Q K O cv R room now births F cA cD cR cM) (hbi : births + 1 < 18446744073709551616) (b1 : cA + 1 < 18446744073709551616) (b2 : cD + 1 < 18446744073709551616) (b3 : cR + 1 < 18446744073709551616) (b4 : cM + 1 < 18446744073709551616) (d : ByteArray) (fb fc : Nat) (i : Int) (hd : Row W fb 0 d) (hfb : fb < W.heap.size) (hdz : d.size ≤ 300000) (hfc : d.size ≤ fc) (hfm : fc ≤ maxLen) (hi : 0 ≤ i ∧ i ≤ 255) (hc : cls d = 0) :
    Calls Tryz.prog 15 #[.pointer (some ⟨Q, 0, none⟩), .int .u8 i, .slice (some ⟨fb, 0, none⟩) d.size fc] W fun e w' => e = .returned (.int .u8 (evG R room now F d i).1.v) ∧ ∃ O' b', GateAt w' Q K O' cv R room now b' (evG R room now F d i).2 (cA + cntG (evG R room now F d i).1.c (evG R room now F d i).1.v 0) (cD + cntG (evG R room now F d i).1.c (evG R room now F d i).1.v 1) (cR + cntG (evG R room now F d i).1.c (evG R room now F d i).1.v 2) (cM + cntG (evG R room now F d i).1.c (evG R room now F d i).1.v 3) ∧ Trn (fun x => x = Q ∨ O x) W w' ∧ (∀ y, O' y → O y ∨ W.heap.size ≤ y) ∧ b' ≤ births + 1 :=
  gframe_of W h b1 b2 b3 b4 d fb fc i (gjudge_fine W hL h hbi d fb fc i hd hfb hdz hfc hfm hi hc)
end Go.Proofs.YtclpnafiiobfhabGreatDoor
namespace Go.Proofs.YtclpnafiiobfhabGreatDoor
open Go.RowKit
set_option linter.unusedVariables false
set_option linter.unusedSimpArgs false

set_option maxRecDepth 20000 in
set_option maxHeartbeats 3200000 in
theorem gnew_any (room : Nat) (h1 : 1 ≤ room) (h2 : room ≤ 64) (W : World) :
    Calls Tryz.prog 26 #[.int .i64 (room : Int), .nilFunc] W fun e w' => ∃ Q K O, e = .returned (.tuple #[.pointer (some ⟨Q, 0, none⟩), .nilIface]) ∧ GateAt w' Q K O (.slice none 0 0) none room 0 0 [] 0 0 0 0 ∧ Below W.heap.size W w' ∧ ∀ x, (x = Q ∨ O x) → W.heap.size ≤ x := by
  have HM : Hid (Calls _ _ _ W _) := keepMake_any room h2 W
  have t1 : ¬ ((room : Int) < 1) := by omega
  have t2 : ¬ ((64 : Int) < (room : Int)) := by omega
  have HR : Hid (1 ≤ room) := h1
  clear h1 h2
  go_enter Tryz.func26, Tryz.ntmps26
  go_wp2_with (go_at_call 39; refine HM.out.mono ?_; rintro e w2 ⟨K, O, rfl, hk, hb, ho⟩; have HK : Hid (Kps w2 O K room 0 0 [] ∧ Below W.heap.size W w2 ∧ ∀ x, O x → W.heap.size ≤ x) := ⟨hk, hb, ho⟩; clear hk hb ho)
  go_ret2
  obtain ⟨hk, hb, ho⟩ := HK.out
  have hz := hb.size
  refine ⟨w2.heap.size, K, O, rfl, ⟨Blk.made w2 _ (gateL (.slice none 0 0) K 0 0 0 0) (list_one rfl), .inl ⟨rfl, rfl⟩, hk.below ((Below.refl _ _).alloc (Nat.le_refl _) _), fun q => absurd (hk.lt _ q) (by omega), HR.out⟩, hb.alloc hz _, fun x q => ?_⟩
  rcases q with rfl | q
  · exact hz
  · exact ho x q
set_option maxRecDepth 20000 in
set_option maxHeartbeats 3200000 in
theorem plNew_any (room : Nat) (h1 : 1 ≤ room) (h2 : room ≤ 64) (W : World) :
    Calls Tryz.prog 14 #[.int .i64 (room : Int)] W fun e w' => ∃ Q K O, e = .returned (.tuple #[.pointer (some ⟨Q, 0, none⟩), .int .i64 0]) ∧ GateAt w' Q K O (.slice none 0 0) none room 0 0 [] 0 0 0 0 ∧ Below W.heap.size W w' ∧ ∀ x, (x = Q ∨ O x) → W.heap.size ≤ x := by
  have HM : Hid (Calls _ _ _ W _) := gnew_any room h1 h2 W
  clear h1 h2
  go_enter Tryz.func14, Tryz.ntmps14
  go_wp2_with (first | (go_at_call 26; refine HM.out.mono ?_; rintro e w2 ⟨Q, K, O, rfl, hg, hb, ho⟩; have HG : Hid (GateAt w2 Q K O (.slice none 0 0) none room 0 0 [] 0 0 0 0 ∧ Below W.heap.size W w2 ∧ ∀ x, (x = Q ∨ O x) → W.heap.size ≤ x) := ⟨hg, hb, ho⟩; clear hg hb ho) | (go_at_call 22; refine (told_nil _).mono ?_; rintro e w3 ⟨rfl, hb3⟩; have HB3 : Hid (Below w2.heap.size w2 w3) := hb3; clear hb3))
  go_ret2
  obtain ⟨hg, hb, ho⟩ := HG.out
  exact ⟨Q, K, O, rfl, hg.below HB3.out, hb.trans (HB3.out.mono hb.size), ho⟩
/-- the code that was loaded -/
theorem code_loaded {W w2 : World} {S : Nat → Prop} {b : Bk} {v : Value} (hgb : GoodB b) (hO : w2.ownsRow W.heap.size 5 1 v (8 * (bookL b).length) (codeB (bookL b))) (hS : ∀ x, S x → x < W.heap.size) : CodeIs w2 S v (some b) := by
  have hz : (codeS (bookL b)).size = 8 * (bookL b).length := by unfold codeS; rw [ofL_size, codeN_len]
  have hpos : 0 < (bookL b).length := by rw [bookL_items]; simp only [List.length_append, List.length_cons]; omega
  obtain ⟨p, c, rfl, hp⟩ := own_form hO
  obtain ⟨g, rfl, hg, hlt, hn, hcm⟩ := hp (by omega)
  exact .inr ⟨b, g, c, rfl, hgb, by rw [hz], own_code hO (book_bd b hgb) hz.symm, hlt, fun q => absurd (hS g q) (by omega), by rw [hz]; exact hn, hcm⟩
theorem Blk.store {t : TypeId} {W : World} {Q : Nat} {L : List Value} (h : Blk t W Q L) (i : Nat) (v : Value) (hv : v.oneCell' = true) : Blk t (W.setCell ⟨Q, i, none⟩ v) Q (L.set i v) := h.set i v hv
set_option maxRecDepth 20000 in
set_option maxHeartbeats 3200000 in
theorem gload_ok {Q K : Nat} {O : Nat → Prop} {cv : Value} {R : Option Bk} {room now births : Nat} {F : List Fl} {cA cD cR cM : Nat} (W : World) (hL : Laid W) (hm : MaxL W) (h : GateAt W Q K O cv R room now births F cA cD cR cM) (s : ByteArray) (n : Nat) (b : Bk) (hs : s.size ≤ maxLen) (hr : readT s = (0, n, b)) :
    Calls Tryz.prog 30 #[.pointer (some ⟨Q, 0, none⟩), .string s] W fun e w' => e = .returned .nilIface ∧ ∃ cv', GateAt w' Q K O cv' (some b) room now births F cA cD cR cM ∧ Trn (fun x => x = Q) W w' ∧ ∀ x, cv'.ownBlock = some x → W.heap.size ≤ x := by
  have hgb : GoodB b := by have := read_good s; rw [hr] at this; exact this
  have HC : Hid (Calls _ _ _ W _) := compile_any s W hm hL hs (fun _ => book_kbd _ (read_good s))
  rw [hr] at HC
  dsimp only at HC
  have HG : Hid (GateAt W Q K O cv R room now births F cA cD cR cM ∧ GoodB b) := ⟨h, hgb⟩
  have c0 := h.blk.cell 0 _ rfl
  have f0 := h.blk.frozen 0
  have hQ := h.blk.lt
  clear h hL hm hs hr hgb
  go_enter Tryz.func30, Tryz.ntmps30
  go_wp2_with (go_at_call 45; refine HC.out.mono ?_; rintro e w2 ⟨q1, q2, hb2⟩; obtain ⟨v, rfl, hO⟩ := q2 rfl; have c0' := (hb2.cell (p := ⟨Q, 0, none⟩) hQ).trans c0; have f0' := (hb2.frozen (p := ⟨Q, 0, none⟩) hQ).trans f0; obtain ⟨pp, cc, hv, _⟩ := own_form hO; subst hv; have HO : Hid (_ ∧ _) := ⟨hO, hb2⟩; clear q1 q2 hO hb2)
  go_ret
  obtain ⟨hO, hb2⟩ := HO.out
  obtain ⟨h, hgb⟩ := HG.out
  have h2 := h.below hb2
  have hlt := h.keeps.lt
  have hcode : CodeIs w2 (fun x => x = Q ∨ O x) _ (some b) := code_loaded hgb hO (fun x q => by
    rcases q with rfl | q
    · exact hQ
    · exact hlt x q)
  have t := Trn.setCell (S := fun x => x = Q) w2 Q 0 (.slice pp (8 * (bookL b).length) cc) rfl
  exact ⟨rfl, _, ⟨h2.blk.store 0 (.slice pp (8 * (bookL b).length) cc) rfl, hcode.trn (t.mono (fun x _ q => .inl q)) (fun x _ q => q), h2.keeps.trn t (fun x q z => h.own (z ▸ q)), h.own, h.cap⟩, (Trn.below hb2).trans t (fun _ _ q => q), fun x q => own_block hO x q⟩
set_option maxRecDepth 20000 in
set_option maxHeartbeats 3200000 in
theorem plLoad_ok {Q K : Nat} {O : Nat → Prop} {cv : Value} {R : Option Bk} {room now births : Nat} {F : List Fl} {cA cD cR cM : Nat} (W : World) (hL : Laid W) (hm : MaxL W) (h : GateAt W Q K O cv R room now births F cA cD cR cM) (s : ByteArray) (n : Nat) (b : Bk) (hs : s.size ≤ maxLen) (hr : readT s = (0, n, b)) :
    Calls Tryz.prog 16 #[.pointer (some ⟨Q, 0, none⟩), .string s] W fun e w' => e = .returned (.tuple #[.int .i64 0, .int .i64 0]) ∧ ∃ cv', GateAt w' Q K O cv' (some b) room now births F cA cD cR cM ∧ Trn (fun x => x = Q) W w' ∧ ∀ x, cv'.ownBlock = some x → W.heap.size ≤ x := by
  have HM : Hid (Calls _ _ _ W _) := gload_ok W hL hm h s n b hs hr
  clear h hL hm hs hr
  go_enter Tryz.func16, Tryz.ntmps16
  go_wp2_with (first | (go_at_call 30; refine HM.out.mono ?_; rintro e w2 ⟨rfl, hg⟩; have HG : Hid (∃ cv', GateAt w2 Q K O cv' (some b) room now births F cA cD cR cM ∧ Trn (fun x => x = Q) W w2 ∧ ∀ x, cv'.ownBlock = some x → W.heap.size ≤ x) := hg; clear hg) | (go_at_call 22; refine (told_nil _).mono ?_; rintro e w3 ⟨rfl, hb3⟩; have HB3 : Hid (Below w2.heap.size w2 w3) := hb3; clear hb3))
  go_ret2
  obtain ⟨cv', hg, ht, hx⟩ := HG.out
  exact ⟨rfl, cv', hg.below HB3.out, ht.trans (Trn.below HB3.out) (fun _ _ q => q), hx⟩
set_option maxRecDepth 20000 in
set_option maxHeartbeats 3200000 in
theorem gtick_any {Q K : Nat} {O : Nat → Prop} {cv : Value} {R : Option Bk} {room now births : Nat} {F : List Fl} {cA cD cR cM : Nat} (W : World) (h : GateAt W Q K O cv R room now births F cA cD cR cM) (m : Nat) (hm : m ≤ topT) :
    Calls Tryz.prog 17 #[.pointer (some ⟨Q, 0, none⟩), .int .u64 (m : Int)] W fun e w' => e = .returned (.tuple #[]) ∧ ∃ O', GateAt w' Q K O' cv R room (plusT now m) births (aliveD (plusT now m) F) cA cD cR cM ∧ Trn (fun x => x = Q ∨ O x) W w' ∧ ∀ x, O' x → O x := by
  have HM : Hid (Calls _ _ _ W _) := tick_any W h.keeps m hm
  have HG : Hid (GateAt W Q K O cv R room now births F cA cD cR cM) := h
  have c1 := h.blk.cell 1 _ rfl
  clear h hm
  go_enter Tryz.func17, Tryz.ntmps17
  go_wp2_with (go_at_call 31; refine HM.out.mono ?_; rintro e w2 ⟨rfl, hk⟩; have HK : Hid (_) := hk; clear hk)
  go_end0
  obtain ⟨O', k1, k2, k3⟩ := HK.out
  have h := HG.out
  have tt : Trn (fun x => x = Q ∨ O x) W w2 := k2.mono (fun x _ q => .inr q)
  exact ⟨rfl, O', ⟨h.blk.trn k2 h.own, h.code.trn tt (fun x _ q => q.imp id (k3 x)), k1, fun q => h.own (k3 _ q), h.cap⟩, tt, k3⟩
end Go.Proofs.YtclpnafiiobfhabGreatDoor
namespace Go.Proofs.YtclpnafiiobfhabGreatDoor
open Go.RowKit
set_option linter.unusedVariables false
set_option linter.unusedSimpArgs false

/-- a gate at work, begun behind world w; the blocks of Ks lie as they lay in Wr -/
def Spk (w Wr W : World) (Ks : List Nat) (Q K : Nat) (R : Option Bk) (room now : Nat) (F : List Fl) (N : Nat) : Prop :=
  ∃ O cv b cA cD cR cM, GateAt W Q K O cv R room now b F cA cD cR cM ∧ (b ≤ N ∧ cA ≤ N ∧ cD ≤ N ∧ cR ≤ N ∧ cM ≤ N) ∧ Below w.heap.size w W ∧ (∀ x, (x = Q ∨ O x) → w.heap.size ≤ x) ∧ ∀ g ∈ Ks, g < W.heap.size ∧ W.heap[g]? = Wr.heap[g]? ∧ ¬ (g = Q ∨ O g) ∧ cv.ownBlock ≠ some g
theorem Spk.start {w Wr W : World} {Ks : List Nat} {Q K room : Nat} {O : Nat → Prop} (h : GateAt W Q K O (.slice none 0 0) none room 0 0 [] 0 0 0 0) (hb : Below Wr.heap.size Wr W) (ho : ∀ x, (x = Q ∨ O x) → Wr.heap.size ≤ x) (hw : Below w.heap.size w Wr) (hk : ∀ g ∈ Ks, g < Wr.heap.size) : Spk w Wr W Ks Q K none room 0 [] 0 := by
  have z := hw.size
  have z2 := hb.size
  exact ⟨O, _, 0, 0, 0, 0, 0, h, ⟨Nat.le_refl _, Nat.le_refl _, Nat.le_refl _, Nat.le_refl _, Nat.le_refl _⟩, hw.trans (hb.mono z), fun x q => Nat.le_trans z (ho x q), fun g hg => ⟨Nat.lt_of_lt_of_le (hk g hg) z2, hb.block g (hk g hg), (fun q => by have a := ho g q; have b := hk g hg; omega), by simp [Value.ownBlock]⟩⟩
theorem Spk.below {w Wr W W' : World} {Ks : List Nat} {Q K : Nat} {R : Option Bk} {room now : Nat} {F : List Fl} {N : Nat} (h : Spk w Wr W Ks Q K R room now F N) (hb : Below W.heap.size W W') : Spk w Wr W' Ks Q K R room now F N := by
  obtain ⟨O, cv, b, cA, cD, cR, cM, h1, h2, h3, h4, h5⟩ := h
  exact ⟨O, cv, b, cA, cD, cR, cM, h1.below hb, h2, h3.trans (hb.mono h3.size), h4, fun g hg => ⟨Nat.lt_of_lt_of_le (h5 g hg).1 hb.size, (hb.block g (h5 g hg).1).trans (h5 g hg).2.1, (h5 g hg).2.2⟩⟩
/-- a store into a block that is not the gate's -/
theorem Spk.store {w Wr W W' : World} {Ks Ks' : List Nat} {Q K : Nat} {R : Option Bk} {room now : Nat} {F : List Fl} {N g0 : Nat} (h : Spk w Wr W Ks Q K R room now F N) (hg0 : g0 ∈ Ks) (hw : w.heap.size ≤ g0) (ht : Trn (fun x => x = g0) W W') (hk : ∀ g ∈ Ks', g ∈ Ks ∧ g ≠ g0) : Spk w Wr W' Ks' Q K R room now F N := by
  obtain ⟨O, cv, b, cA, cD, cR, cM, h1, h2, h3, h4, h5⟩ := h
  obtain ⟨_, _, hn, hcv⟩ := h5 g0 hg0
  refine ⟨O, cv, b, cA, cD, cR, cM, ⟨h1.blk.trn ht (fun q => hn (.inl q.symm)), ?_, h1.keeps.trn ht (fun x q z => hn (.inr (z ▸ q))), h1.own, h1.cap⟩, h2, h3.trans (ht.to_below h3.size (fun m hm q => by omega)), h4, fun g hg => ?_⟩
  · rcases h1.code with q | ⟨b, g, c, q1, q2, q3, q4, q5, q6, q7⟩
    · exact .inl q
    · subst q3
      have hne : g ≠ g0 := fun q => hcv (by rw [← q]; rfl)
      exact .inr ⟨b, g, c, q1, q2, rfl, fun i hi => (World.cell?_of_block (a := ⟨g, 0 + i, none⟩) (ht.block g q5 hne)).trans (q4 i hi), Nat.lt_of_lt_of_le q5 ht.size, q6, q7⟩
  · obtain ⟨a, b⟩ := hk g hg
    exact ⟨Nat.lt_of_lt_of_le (h5 g a).1 ht.size, (ht.block g (h5 g a).1 b).trans (h5 g a).2.1, (h5 g a).2.2⟩
theorem spk_load {w Wr W : World} {Ks : List Nat} {Q K : Nat} {R : Option Bk} {room now : Nat} {F : List Fl} {N : Nat} (h : Spk w Wr W Ks Q K R room now F N) (hL : Laid w) (hm : MaxL w) (s : ByteArray) (n : Nat) (b : Bk) (hs : s.size ≤ maxLen) (hr : readT s = (0, n, b)) :
    Calls Tryz.prog 16 #[.pointer (some ⟨Q, 0, none⟩), .string s] W fun e w' => e = .returned (.tuple #[.int .i64 0, .int .i64 0]) ∧ Spk w Wr w' Ks Q K (some b) room now F N := by
  obtain ⟨O, cv, b', cA, cD, cR, cM, h1, h2, h3, h4, h5⟩ := h
  refine (plLoad_ok W (hL.below h3) (hm.below h3) h1 s n b hs hr).mono (fun e w' z => ⟨z.1, ?_⟩)
  obtain ⟨cv', q1, q2, q3⟩ := z.2
  refine ⟨O, cv', b', cA, cD, cR, cM, q1, h2, h3.trans (q2.to_below h3.size (fun m hm q => by have := h4 Q (.inl rfl); omega)), h4, fun g hg => ?_⟩
  obtain ⟨a1, a2, a3, _⟩ := h5 g hg
  exact ⟨Nat.lt_of_lt_of_le a1 q2.size, (q2.block g a1 (fun q => a3 (.inl q))).trans a2, a3, fun q => by have := q3 g q; omega⟩
theorem spk_frame {w Wr W : World} {Ks : List Nat} {Q K : Nat} {R : Option Bk} {room now : Nat} {F : List Fl} {N : Nat} (h : Spk w Wr W Ks Q K R room now F N) (hL : Laid w) (hN : N < 18446744073709551614) (d : ByteArray) (fb fc : Nat) (i : Int) (hd : Row W fb 0 d) (hfb : fb < W.heap.size) (hdz : d.size ≤ 300000) (hfc : d.size ≤ fc) (hfm : fc ≤ maxLen) (hi : 0 ≤ i ∧ i ≤ 255) (hc : cls d = 0) :
    Calls Tryz.prog 15 #[.pointer (some ⟨Q, 0, none⟩), .int .u8 i, .slice (some ⟨fb, 0, none⟩) d.size fc] W fun e w' => e = .returned (.int .u8 (evG R room now F d i).1.v) ∧ Spk w Wr w' Ks Q K R room now (evG R room now F d i).2 (N + 1) := by
  obtain ⟨O, cv, b, cA, cD, cR, cM, h1, h2, h3, h4, h5⟩ := h
  refine (gframe_fine W (hL.below h3) h1 (by omega) (by omega) (by omega) (by omega) (by omega) d fb fc i hd hfb hdz hfc hfm hi hc).mono (fun e w' z => ⟨z.1, ?_⟩)
  obtain ⟨O', b', q1, q2, q3, q4⟩ := z.2
  have hz := h3.size
  have c1 : ∀ c v k, cntG c v k ≤ 1 := fun c v k => by unfold cntG; (repeat' split) <;> omega
  refine ⟨O', cv, b', _, _, _, _, q1, ⟨by omega, ?_, ?_, ?_, ?_⟩, h3.trans (q2.to_below h3.size (fun m hm q => by have := h4 m q; omega)), fun x q => ?_, fun g hg => ?_⟩
  · have := c1 (evG R room now F d i).1.c (evG R room now F d i).1.v 0; omega
  · have := c1 (evG R room now F d i).1.c (evG R room now F d i).1.v 1; omega
  · have := c1 (evG R room now F d i).1.c (evG R room now F d i).1.v 2; omega
  · have := c1 (evG R room now F d i).1.c (evG R room now F d i).1.v 3; omega
  · rcases q with q | q
    · exact h4 x (.inl q)
    · rcases q3 x q with z | z
      · exact h4 x (.inr z)
      · omega
  · obtain ⟨a1, a2, a3, a4⟩ := h5 g hg
    refine ⟨Nat.lt_of_lt_of_le a1 q2.size, (q2.block g a1 a3).trans a2, fun q => a3 ?_, a4⟩
    rcases q with q | q
    · exact .inl q
    · rcases q3 g q with z | z
      · exact .inr z
      · omega
theorem spk_tick {w Wr W : World} {Ks : List Nat} {Q K : Nat} {R : Option Bk} {room now : Nat} {F : List Fl} {N : Nat} (h : Spk w Wr W Ks Q K R room now F N) (m : Nat) (hm : m ≤ topT) :
    Calls Tryz.prog 17 #[.pointer (some ⟨Q, 0, none⟩), .int .u64 (m : Int)] W fun e w' => e = .returned (.tuple #[]) ∧ Spk w Wr w' Ks Q K R room (plusT now m) (aliveD (plusT now m) F) N := by
  obtain ⟨O, cv, b, cA, cD, cR, cM, h1, h2, h3, h4, h5⟩ := h
  refine (gtick_any W h1 m hm).mono (fun e w' z => ⟨z.1, ?_⟩)
  obtain ⟨O', q1, q2, q3⟩ := z.2
  refine ⟨O', cv, b, cA, cD, cR, cM, q1, h2, h3.trans (q2.to_below h3.size (fun m hm q => by have := h4 m q; omega)), fun x q => h4 x (q.imp id (q3 x)), fun g hg => ?_⟩
  obtain ⟨a1, a2, a3, a4⟩ := h5 g hg
  exact ⟨Nat.lt_of_lt_of_le a1 q2.size, (q2.block g a1 a3).trans a2, fun q => a3 (q.imp id (q3 g)), a4⟩
theorem Spk.base {w Wr W : World} {Ks : List Nat} {Q K : Nat} {R : Option Bk} {room now : Nat} {F : List Fl} {N : Nat} (h : Spk w Wr W Ks Q K R room now F N) : Below w.heap.size w W := by
  obtain ⟨O, cv, b, cA, cD, cR, cM, h1, h2, h3, h4, h5⟩ := h
  exact h3
theorem Spk.row {w Wr W : World} {Ks : List Nat} {Q K : Nat} {R : Option Bk} {room now : Nat} {F : List Fl} {N g : Nat} (h : Spk w Wr W Ks Q K R room now F N) (hg : g ∈ Ks) : g < W.heap.size ∧ W.heap[g]? = Wr.heap[g]? := by
  obtain ⟨O, cv, b, cA, cD, cR, cM, h1, h2, h3, h4, h5⟩ := h
  exact ⟨(h5 g hg).1, (h5 g hg).2.1⟩
end Go.Proofs.YtclpnafiiobfhabGreatDoor

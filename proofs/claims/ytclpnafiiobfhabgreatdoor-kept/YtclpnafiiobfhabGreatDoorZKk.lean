import Derived.Test.YtclpnafiiobfhabGreatDoorRText
import Derived.Test.YtclpnafiiobfhabGreatDoorZKs
import Derived.Test.YtclpnafiiobfhabGreatDoorZGf
import Derived.Deep.CutBlock
namespace Go.Proofs.YtclpnafiiobfhabGreatDoor
open Go.RowKit
set_option linter.unusedVariables false
set_option linter.unusedSimpArgs false

/-- a text with the line 'foo' behind it is never read well -/
def wFoo : List UInt8 := [102, 111, 111]
theorem parts_app (c : UInt8) (t : List UInt8) : ∀ l : List UInt8, parts c (l ++ c :: t) = parts c l ++ parts c t
  | [] => by simp [parts]
  | x :: l => by
    have ih := parts_app c t l
    by_cases h : x = c
    · subst h
      simp [parts, ih]
    · have hp : ∃ p r, parts c l = p :: r := by
        cases e : parts c l with
        | nil => exact absurd e (by cases l <;> (unfold parts; try split) <;> simp_all)
        | cons p r => exact ⟨p, r, rfl⟩
      obtain ⟨p, r, hp⟩ := hp
      simp [parts, h, ih, hp]
theorem pieces_foo : pieces (ba wFoo) = [ba wFoo] := by decide
theorem line_foo (b : Bk) : (lineOf b [ba wFoo]).1 ≠ 0 := by
  unfold lineOf
  have h1 : (ruleOf [ba wFoo] b.rs.length).1 = 3 := by
    unfold ruleOf
    rw [if_pos (by decide)]
  have h2 : policyOf [ba wFoo] = -1 := by decide
  cases b.has with
  | true => rw [if_pos rfl, if_neg (by rw [h1]; decide), h1]; decide
  | false => rw [if_neg (by decide), if_pos (by rw [h2]; decide)]; decide
theorem lines_foo : ∀ (ls : List ByteArray) (n : Nat) (b : Bk), (linesOf (ls ++ [ba wFoo]) n b).1 ≠ 0
  | [], n, b => by
    show (linesOf [ba wFoo] n b).1 ≠ 0
    unfold linesOf
    rw [pieces_foo, if_neg (by simp), if_pos (line_foo b)]
    exact line_foo b
  | l :: ls, n, b => by
    show (linesOf (l :: (ls ++ [ba wFoo])) n b).1 ≠ 0
    unfold linesOf
    split
    · exact lines_foo ls _ _
    · split
      · rename_i q; exact q
      · exact lines_foo ls _ _
theorem read_foo (s : List UInt8) : (readT (ba (s ++ 10 :: wFoo))).1 ≠ 0 := by
  unfold readT
  split
  · decide
  · have e : cutB 10 (ba (s ++ 10 :: wFoo)) = (parts 10 s).map ba ++ [ba wFoo] := by
      unfold cutB
      rw [bl_ba, parts_app, List.map_append]
      rfl
    rw [e]
    exact lines_foo _ _ _
end Go.Proofs.YtclpnafiiobfhabGreatDoor
namespace Go.Proofs.YtclpnafiiobfhabGreatDoor
open Go.RowKit
set_option linter.unusedVariables false
set_option linter.unusedSimpArgs false

set_option maxHeartbeats 1600000 in
theorem kheader_udp (a b c : Int) (w : World) (hc : -9223372036854775808 ≤ c ∧ c ≤ 9223372036854775807) :
    Calls Tryz.prog 9 #[.int .i64 a, .int .i64 b, .int .i64 c, .int .i64 1] w fun e w' => e = .returned (.agg #[.int .u32 (a % 4294967296), .int .u32 (b % 4294967296), .int .u8 17, .int .u16 (IntKind.u16.wrap c), .int .u16 (IntKind.u16.wrap (c / 65536)), .int .u8 0]) ∧ Below w.heap.size w w' := by
  have HK : Hid (pk 1 4 = 1) := show pk 1 4 = 1 by decide
  have hcb : -9223372036854775808 ≤ c / 4294967296 ∧ c / 4294967296 ≤ 9223372036854775807 := by omega
  go_enter Tryz.func9, Tryz.ntmps9
  go_wp2_with fail
  refine (pick_any 1 4 _ (by omega) (by omega)).mono ?_
  rintro e w1 ⟨rfl, rfl⟩
  rw [HK.out]
  go_wp2
  refine bodyPost_ret (v := .agg #[.int .u32 (a % 4294967296), .int .u32 (b % 4294967296), .int .u8 17, .int .u16 (IntKind.u16.wrap c), .int .u16 (IntKind.u16.wrap (c / 65536)), .int .u8 0]) (by simp [results, Tryz.results9, go_sem]) rfl ⟨rfl, ?_⟩
  exact ((Below.refl _ _).alloc (Nat.le_refl _) _).alloc (by simp) _
theorem build_udp (x0 x1 x3 x4 : Int) (hR : Ranges x0 x1 17 x3 x4 0) (W : World) : Calls Tryz.prog 10 #[.agg #[.int .u32 x0, .int .u32 x1, .int .u8 17, .int .u16 x3, .int .u16 x4, .int .u8 0], .slice none 0 0] W fun e w' => ∃ g, e = .returned (.tuple #[.slice (some ⟨g, 0, none⟩) 42 42, .int .i64 0]) ∧ W.heap.size ≤ g ∧ Below W.heap.size W w' ∧ Buf w' g (frameI x0 x1 17 x3 x4 0 42 []) :=
  plBuild_yes x0 x1 17 x3 x4 0 none 0 [] W hR.a hR.b hR.p hR.sp hR.dp hR.f (by simp) (fun x hx => by cases hx) (.inl rfl) (by simp [mayB]) 42 (by decide)
/-- a frame of UDP that lies in a block -/
structure Frmu (W : World) (g : Nat) (d : ByteArray) (h : Hd) : Prop where
  row : Row W g 0 d
  size : d.size = 42
  lt : g < W.heap.size
  cls : cls d = 0
  hd : hdOf d = h
theorem udp_built (a b sp dp : Int) (hr : Ranges a b 17 sp dp 0) : cls (ofL (frameI a b 17 sp dp 0 42 [])) = 0 ∧ hdOf (ofL (frameI a b 17 sp dp 0 42 [])) = ⟨a, b, 17, sp, dp, 0⟩ := by
  have h := frame_parse a b 17 sp dp 0 42 [] [] hr (.inr (.inl ⟨rfl, rfl⟩)) (by simp) (fun x hx => by cases hx) (fun x hx => by cases hx) (by decide)
  rw [List.append_nil] at h
  exact built_fine h
theorem frmu_built {W : World} {g : Nat} {x0 x1 x3 x4 : Int} (hR : Ranges x0 x1 17 x3 x4 0) (hB : Buf W g (frameI x0 x1 17 x3 x4 0 42 [])) : Frmu W g (ofL (frameI x0 x1 17 x3 x4 0 42 [])) ⟨x0, x1, 17, x3, x4, 0⟩ := by
  have hY := frame_byt x0 x1 17 x3 x4 0 42 [] hR (by simp) (fun x hx => by cases hx) (by decide)
  obtain ⟨hc, hh⟩ := udp_built x0 x1 x3 x4 hR
  refine ⟨hB.row hY, ?_, hB.lt, hc, hh⟩
  rw [ofL_size]; unfold frameI; simp [headed_len, innerOf_len]
theorem Frmu.of {W Wr : World} {g : Nat} {d : ByteArray} {h : Hd} (q : Frmu Wr g d h) (e : W.heap[g]? = Wr.heap[g]?) (hl : Wr.heap.size ≤ W.heap.size) : Frmu W g d h := ⟨row_of e q.row, q.size, Nat.lt_of_lt_of_le q.lt hl, q.cls, q.hd⟩
/-- policy accept -/
def bkA : Bk := ⟨true, 1, []⟩
def txA : List UInt8 := [112, 111, 108, 105, 99, 121, 32, 97, 99, 99, 101, 112, 116]
theorem polA (l : List ByteArray) : linesOf (ba (lnPol 1) :: l) 0 bk0 = linesOf l 1 ⟨true, 1, []⟩ :=
  lines_step (p := wPolicy) (q := [wV 1]) (all_cons (P := fun x => Free 32 x ∧ x ≠ []) (frw rfl (by decide)) (all_cons (fr (by decide)) all_nil)) (line_pol (by decide))
theorem readA : readT (ba txA) = (0, 0, bkA) := by
  have e : txA = glue 10 [lnPol 1] := by decide
  rw [e]
  refine read_lines _ _ (all_cons (lnPol_f (by decide)) all_nil) (by decide) ?_
  refine (polA []).trans ?_
  exact lines_end _ rfl
theorem evA {d : ByteArray} {h : Hd} (hc : cls d = 0) (hh : hdOf d = h) (room now : Nat) (F : List Fl) (i : Int) : (evG (some bkA) room now F d i).1.c = 0 ∧ (evG (some bkA) room now F d i).1.v = 1 ∧ (evG (some bkA) room now F d i).2 = (keepS room now F h).2 := by
  unfold evG
  rw [if_pos hc, hh, if_pos (show verdG (some bkA) d i (lookS F h) = 1 from rfl)]
  exact ⟨rfl, rfl, rfl⟩
theorem evN {d : ByteArray} (hc : cls d = 0) (room now : Nat) (F : List Fl) (i : Int) : (evG none room now F d i).1.c = 0 ∧ (evG none room now F d i).1.v = 0 ∧ (evG none room now F d i).2 = F := by
  unfold evG
  rw [if_pos hc, if_neg (show ¬ verdG none d i (lookS F (hdOf d)) = 1 from by show ¬ (0 : Nat) = 1; decide)]
  exact ⟨rfl, rfl, rfl⟩
/-- flows of UDP between the same ends, none answered -/
def Udp (a b d : Int) (now : Nat) (F : List Fl) : Prop := ∀ f ∈ F, f.a = a ∧ f.b = b ∧ f.d = d ∧ f.p = 17 ∧ f.rep = false ∧ now < f.u ∧ f.u ≤ now + 60
theorem Udp.tick {a b d : Int} {now : Nat} {F : List Fl} (h : Udp a b d now F) (m : Nat) : Udp a b d (now + m) (aliveD (now + m) F) := fun f hf => by
  unfold aliveD at hf
  obtain ⟨h1, h2⟩ := List.mem_filter.1 hf
  obtain ⟨q1, q2, q3, q4, q5, q6, q7⟩ := h f h1
  exact ⟨q1, q2, q3, q4, q5, of_decide_eq_true h2, by omega⟩
theorem Udp.ended {a b d : Int} {now : Nat} {F : List Fl} (h : Udp a b d now F) : aliveD (now + 60) F = [] := by
  unfold aliveD
  refine List.filter_eq_nil_iff.2 fun f hf => ?_
  have := (h f hf).2.2.2.2.2.2
  simp; omega
theorem back_same {a b d s : Int} {f : Fl} (h1 : f.a = a) (h2 : f.b = b) (h3 : f.d = d) (hf : fitsF f ⟨a, b, 17, s, d, 0⟩ ≠ 0) : backF f ⟨a, b, 17, s, d, 0⟩ = false := by
  have hk := (fits_key _ _).1 hf
  obtain ⟨_, q⟩ := keyE_eq hk
  unfold backF
  dsimp only at q ⊢
  rw [h1, h2, h3] at q ⊢
  have e : f.s = s := by
    rcases q with q | q
    · exact q.2.1
    · obtain ⟨z1, z2, z3, z4⟩ := q; rw [z2, ← z4]
  rw [e]
  simp
theorem Udp.keep {a b d : Int} {now room : Nat} {F : List Fl} (h : Udp a b d now F) (s : Int) (hn : now ≤ 1000) : Udp a b d now (keepS room now F ⟨a, b, 17, s, d, 0⟩).2 := by
  have hp : plusT now 60 = now + 60 := plus_small hn (by omega)
  unfold keepS
  split
  · rename_i i hi
    intro f hf
    rcases List.mem_or_eq_of_mem_set hf with q | q
    · exact h f q
    · obtain ⟨hl, hfit⟩ : ∃ hl : i < F.length, decide (fitsF F[i] ⟨a, b, 17, s, d, 0⟩ ≠ 0) = true := by
        unfold findD at hi
        obtain ⟨hl, z, _⟩ := List.findIdx?_eq_some_iff_getElem.1 hi
        exact ⟨hl, z⟩
      have e : F.getD i fl0 = F[i] := by simp [List.getD, hl]
      rw [e] at q
      obtain ⟨q1, q2, q3, q4, q5, q6, q7⟩ := h F[i] (List.getElem_mem hl)
      have hb := back_same q1 q2 q3 (of_decide_eq_true hfit)
      subst q
      unfold heardF
      dsimp only
      have sp : ∀ c u, spanF { F[i] with rep := F[i].rep || backF F[i] ⟨a, b, 17, s, d, 0⟩, clo := c, u := u } = 60 := fun c u => by
        unfold spanF
        dsimp only
        rw [q4, q5, hb]; rfl
      refine ⟨q1, q2, q3, q4, by rw [q5, hb]; rfl, ?_, ?_⟩
      · rw [sp, hp]; omega
      · rw [sp, hp]; omega
  · rw [if_pos (show freshH ⟨a, b, 17, s, d, 0⟩ = true from rfl)]
    intro f hf
    dsimp only at hf
    rcases List.mem_append.1 hf with q | q
    · refine h f ?_
      split at q
      · exact List.mem_of_mem_eraseIdx q
      · exact q
    · obtain rfl := List.mem_singleton.1 q
      unfold beginF
      dsimp only
      have sp : spanF ⟨a, b, 17, s, d, false, false, 0⟩ = 60 := rfl
      refine ⟨rfl, rfl, rfl, rfl, rfl, ?_, ?_⟩
      · rw [sp, hp]; omega
      · rw [sp, hp]; omega
/-- a gate at work, its counts told -/
def Spc (w Wr W : World) (Ks : List Nat) (Q K : Nat) (R : Option Bk) (room now : Nat) (F : List Fl) (A D N : Nat) : Prop :=
  ∃ O cv b, GateAt W Q K O cv R room now b F A D 0 0 ∧ b ≤ N ∧ Below w.heap.size w W ∧ (∀ x, (x = Q ∨ O x) → w.heap.size ≤ x) ∧ ∀ g ∈ Ks, g < W.heap.size ∧ W.heap[g]? = Wr.heap[g]? ∧ ¬ (g = Q ∨ O g) ∧ cv.ownBlock ≠ some g
theorem Spc.start {w Wr W : World} {Ks : List Nat} {Q K room : Nat} {O : Nat → Prop} (h : GateAt W Q K O (.slice none 0 0) none room 0 0 [] 0 0 0 0) (hb : Below Wr.heap.size Wr W) (ho : ∀ x, (x = Q ∨ O x) → Wr.heap.size ≤ x) (hw : Below w.heap.size w Wr) (hk : ∀ g ∈ Ks, g < Wr.heap.size) : Spc w Wr W Ks Q K none room 0 [] 0 0 0 := by
  have z := hw.size
  have z2 := hb.size
  exact ⟨O, _, 0, h, Nat.le_refl _, hw.trans (hb.mono z), fun x q => Nat.le_trans z (ho x q), fun g hg => ⟨Nat.lt_of_lt_of_le (hk g hg) z2, hb.block g (hk g hg), (fun q => by have a := ho g q; have b := hk g hg; omega), by simp [Value.ownBlock]⟩⟩
section
variable {w Wr W W' : World} {Ks Ks' : List Nat} {Q K : Nat} {R : Option Bk} {room now : Nat} {F : List Fl} {A D N : Nat}
theorem Spc.below (h : Spc w Wr W Ks Q K R room now F A D N) (hb : Below W.heap.size W W') : Spc w Wr W' Ks Q K R room now F A D N := by
  obtain ⟨O, cv, b, h1, h2, h3, h4, h5⟩ := h
  exact ⟨O, cv, b, h1.below hb, h2, h3.trans (hb.mono h3.size), h4, fun g hg => ⟨Nat.lt_of_lt_of_le (h5 g hg).1 hb.size, (hb.block g (h5 g hg).1).trans (h5 g hg).2.1, (h5 g hg).2.2⟩⟩
/-- new blocks that the gate does not own are looked after from now on -/
theorem Spc.anew (h : Spc w Wr W Ks Q K R room now F A D N) (hb : Below W.heap.size W W') (hk : ∀ g ∈ Ks', g < W'.heap.size ∧ (g ∈ Ks ∨ W.heap.size ≤ g)) : Spc w W' W' Ks' Q K R room now F A D N := by
  obtain ⟨O, cv, b, h1, h2, h3, h4, h5⟩ := h
  have hcv : ∀ g, cv.ownBlock = some g → g < W.heap.size := fun g q => by
    rcases h1.code with ⟨_, rfl⟩ | ⟨_, g', _, _, _, rfl, _, q5, _⟩
    · cases q
    · cases q; exact q5
  refine ⟨O, cv, b, h1.below hb, h2, h3.trans (hb.mono h3.size), h4, fun g hg => ⟨(hk g hg).1, rfl, ?_⟩⟩
  rcases (hk g hg).2 with q | q
  · exact (h5 g q).2.2
  · refine ⟨fun z => ?_, fun z => by have := hcv g z; omega⟩
    rcases z with rfl | z
    · have := h1.blk.lt; omega
    · have := h1.keeps.lt g z; omega
theorem Spc.store {g0 : Nat} (h : Spc w Wr W Ks Q K R room now F A D N) (hg0 : g0 ∈ Ks) (hw : w.heap.size ≤ g0) (ht : Trn (fun x => x = g0) W W') : Spc w W' W' Ks Q K R room now F A D N := by
  obtain ⟨O, cv, b, h1, h2, h3, h4, h5⟩ := h
  obtain ⟨_, _, hn, hcv⟩ := h5 g0 hg0
  refine ⟨O, cv, b, ⟨h1.blk.trn ht (fun q => hn (.inl q.symm)), ?_, h1.keeps.trn ht (fun x q z => hn (.inr (z ▸ q))), h1.own, h1.cap⟩, h2, h3.trans (ht.to_below h3.size (fun m hm q => by omega)), h4, fun g hg => ⟨Nat.lt_of_lt_of_le (h5 g hg).1 ht.size, rfl, (h5 g hg).2.2⟩⟩
  rcases h1.code with q | ⟨b, g, c, q1, q2, q3, q4, q5, q6, q7⟩
  · exact .inl q
  · subst q3
    have hne : g ≠ g0 := fun q => hcv (by rw [← q]; rfl)
    exact .inr ⟨b, g, c, q1, q2, rfl, fun i hi => (World.cell?_of_block (a := ⟨g, 0 + i, none⟩) (ht.block g q5 hne)).trans (q4 i hi), Nat.lt_of_lt_of_le q5 ht.size, q6, q7⟩
theorem spc_load (h : Spc w Wr W Ks Q K R room now F A D N) (hL : Laid w) (hm : MaxL w) (s : ByteArray) (n : Nat) (b : Bk) (hs : s.size ≤ maxLen) (hr : readT s = (0, n, b)) :
    Calls Tryz.prog 16 #[.pointer (some ⟨Q, 0, none⟩), .string s] W fun e w' => e = .returned (.tuple #[.int .i64 0, .int .i64 0]) ∧ Spc w Wr w' Ks Q K (some b) room now F A D N := by
  obtain ⟨O, cv, b', h1, h2, h3, h4, h5⟩ := h
  refine (plLoad_ok W (hL.below h3) (hm.below h3) h1 s n b hs hr).mono (fun e w' z => ⟨z.1, ?_⟩)
  obtain ⟨cv', q1, q2, q3⟩ := z.2
  refine ⟨O, cv', b', q1, h2, h3.trans (q2.to_below h3.size (fun m hm q => by have := h4 Q (.inl rfl); omega)), h4, fun g hg => ?_⟩
  obtain ⟨a1, a2, a3, _⟩ := h5 g hg
  exact ⟨Nat.lt_of_lt_of_le a1 q2.size, (q2.block g a1 (fun q => a3 (.inl q))).trans a2, a3, fun q => by have := q3 g q; omega⟩
theorem Spc.base (h : Spc w Wr W Ks Q K R room now F A D N) : Below w.heap.size w W := by
  obtain ⟨O, cv, b, h1, h2, h3, h4, h5⟩ := h
  exact h3
theorem Spc.row {g : Nat} (h : Spc w Wr W Ks Q K R room now F A D N) (hg : g ∈ Ks) : g < W.heap.size ∧ W.heap[g]? = Wr.heap[g]? := by
  obtain ⟨O, cv, b, h1, h2, h3, h4, h5⟩ := h
  exact ⟨(h5 g hg).1, (h5 g hg).2.1⟩
theorem spc_load_bad (h : Spc w Wr W Ks Q K R room now F A D N) (hL : Laid w) (hm : MaxL w) (s : ByteArray) (hs : s.size ≤ maxLen) (hr : (readT s).1 ≠ 0) :
    Calls Tryz.prog 16 #[.pointer (some ⟨Q, 0, none⟩), .string s] W fun e w' => ∃ k n : Nat, k ≠ 0 ∧ e = .returned (.tuple #[.int .i64 (k : Int), .int .i64 (n : Int)]) ∧ Spc w Wr w' Ks Q K R room now F A D N :=
  (plLoad_bad Q W (hL.below h.base) (hm.below h.base) s _ _ _ hs rfl hr).mono (fun e w' z => ⟨_, _, hr, z.1, h.below z.2⟩)
theorem spc_frame (h : Spc w Wr W Ks Q K R room now F A D N) (hL : Laid w) (hN : N < 1000 ∧ A < 1000 ∧ D < 1000) {g : Nat} {d : ByteArray} {hd : Hd} (hf : Frmu W g d hd) (v : Int) (F' : List Fl) (A' D' : Nat) (hv : (evG R room now F d 0).1.c = 0 ∧ (evG R room now F d 0).1.v = v ∧ (evG R room now F d 0).2 = F') (hc : cntG 0 v 0 + A = A' ∧ cntG 0 v 1 + D = D' ∧ cntG 0 v 2 = 0 ∧ cntG 0 v 3 = 0) :
    Calls Tryz.prog 15 #[.pointer (some ⟨Q, 0, none⟩), .int .u8 0, .slice (some ⟨g, 0, none⟩) 42 42] W fun e w' => e = .returned (.int .u8 v) ∧ Spc w Wr w' Ks Q K R room now F' A' D' (N + 1) := by
  obtain ⟨O, cv, b, h1, h2, h3, h4, h5⟩ := h
  have z := gframe_fine W (hL.below h3) h1 (by omega) (by omega) (by omega) (by omega) (by omega) d g 42 0 hf.row hf.lt (by rw [hf.size]; omega) (by rw [hf.size]; omega) (by decide) (by omega) hf.cls
  rw [hf.size, hv.1, hv.2.1, hv.2.2, hc.2.2.1, hc.2.2.2, Nat.add_comm A, Nat.add_comm D, hc.1, hc.2.1] at z
  refine z.mono (fun e w' z => ⟨z.1, ?_⟩)
  obtain ⟨O', b', q1, q2, q3, q4⟩ := z.2
  have hz := h3.size
  refine ⟨O', cv, b', q1, by omega, h3.trans (q2.to_below h3.size (fun m hm q => by have := h4 m q; omega)), fun x q => ?_, fun g hg => ?_⟩
  · rcases q with q | q
    · exact h4 x (.inl q)
    · rcases q3 x q with z | z
      · exact h4 x (.inr z)
      · omega
  · obtain ⟨a1, a2, a3, a4⟩ := h5 g hg
    refine ⟨Nat.lt_of_lt_of_le a1 q2.size, (q2.block g a1 a3).trans a2, fun q => a3 ?_, a4⟩
    rcases q with q | q
    · exact .inl q
    · rcases q3 g q with z | z
      · exact .inr z
      · omega
theorem spc_tick (h : Spc w Wr W Ks Q K R room now F A D N) (m : Nat) (hm : m ≤ 1000) (hn : now ≤ 1000) :
    Calls Tryz.prog 17 #[.pointer (some ⟨Q, 0, none⟩), .int .u64 (m : Int)] W fun e w' => e = .returned (.tuple #[]) ∧ Spc w Wr w' Ks Q K R room (now + m) (aliveD (now + m) F) A D N := by
  obtain ⟨O, cv, b, h1, h2, h3, h4, h5⟩ := h
  have z := gtick_any W h1 m (by unfold topT; omega)
  rw [plus_small hn hm] at z
  refine z.mono (fun e w' z => ⟨z.1, ?_⟩)
  obtain ⟨O', q1, q2, q3⟩ := z.2
  refine ⟨O', cv, b, q1, h2, h3.trans (q2.to_below h3.size (fun m hm q => by have := h4 m q; omega)), fun x q => h4 x (q.imp id (q3 x)), fun g hg => ?_⟩
  obtain ⟨a1, a2, a3, a4⟩ := h5 g hg
  exact ⟨Nat.lt_of_lt_of_le a1 q2.size, (q2.block g a1 a3).trans a2, fun q => a3 (q.imp id (q3 g)), a4⟩
theorem spc_now (h : Spc w Wr W Ks Q K R room now F A D N) :
    Calls Tryz.prog 19 #[.pointer (some ⟨Q, 0, none⟩)] W fun e w' => e = .returned (.int .u64 (now : Int)) ∧ w' = W := by
  obtain ⟨O, cv, b, h1, _⟩ := h
  exact gnow_any W h1
theorem spc_counts (h : Spc w Wr W Ks Q K R room now F A D N) :
    Calls Tryz.prog 20 #[.pointer (some ⟨Q, 0, none⟩)] W fun e w' => e = .returned (.agg #[.int .u64 (A : Int), .int .u64 (D : Int), .int .u64 0, .int .u64 0]) ∧ Spc w Wr w' Ks Q K R room now F A D N := by
  obtain ⟨O, cv, b, h1, h2⟩ := h
  exact (gcounts_any W h1).mono (fun e w' z => ⟨z.1, Spc.below ⟨O, cv, b, h1, h2⟩ z.2⟩)
theorem spc_list (h : Spc w Wr W Ks Q K R room now F A D N) :
    Calls Tryz.prog 18 #[.pointer (some ⟨Q, 0, none⟩)] W fun e w' => ∃ v, e = .returned v ∧ w'.ownsRow W.heap.size 54 8 v F.length (flatF F) ∧ Below W.heap.size W w' := by
  obtain ⟨O, cv, b, h1, h2⟩ := h
  exact glist_any W h1
theorem Spc.len (h : Spc w Wr W Ks Q K R room now F A D N) : F.length ≤ room ∧ 1 ≤ room := by
  obtain ⟨O, cv, b, h1, h2⟩ := h
  obtain ⟨T, mb, v, n, f, G, h, _⟩ := h1.keeps
  exact ⟨by rw [h.rel.flen]; exact h.tab.le, h1.cap⟩
end
end Go.Proofs.YtclpnafiiobfhabGreatDoor
namespace Go.Proofs.YtclpnafiiobfhabGreatDoor
open Go.RowKit
set_option linter.unusedVariables false
set_option linter.unusedSimpArgs false
set_option maxRecDepth 100000 in
set_option maxHeartbeats 6400000 in
theorem kept_long (a b : Int) (s : ByteArray) (w : World) (hs : 262144 < s.size) :
    Calls Tryz.prog 6 #[.int .i64 a, .int .i64 b, .string s] w fun e w' => e = .returned (.bool true) ∧ Below w.heap.size w w' := by
  have h1 : (262144 : Int) < (s.size : Int) := by omega
  clear hs
  go_enter Tryz.func6, Tryz.ntmps6
  go_wp2_with fail
  go_ret
  exact ⟨rfl, Below.refl _ _⟩
theorem flatF_get : ∀ (F : List Fl) (i : Nat) (f : Fl), F[i]? = some f → ∀ (j : Nat) (u : Value), f.cells[j]? = some u → (flatF F)[i * 8 + j]? = some u
  | [], i, f, h, j, u, hu => by simp at h
  | x :: F, 0, f, h, j, u, hu => by
    obtain rfl : x = f := by simpa using h
    have hj : j < 8 := (Array.getElem?_eq_some_iff.1 hu).1
    show (x.cells.toList ++ flatF F)[0 * 8 + j]? = some u
    rw [Nat.zero_mul, Nat.zero_add, List.getElem?_append_left (by show j < 8; exact hj)]
    simpa using hu
  | x :: F, i + 1, f, h, j, u, hu => by
    have ih := flatF_get F i f (by simpa using h) j u hu
    show (x.cells.toList ++ flatF F)[(i + 1) * 8 + j]? = some u
    rw [List.getElem?_append_right (by show 8 ≤ _; omega)]
    rw [show (i + 1) * 8 + j - x.cells.toList.length = i * 8 + j from by show (i + 1) * 8 + j - 8 = _; omega]
    exact ih
theorem list_cells {W : World} {base : Nat} {e : TypeId} {v : Value} {F : List Fl} (h : W.ownsRow base e 8 v F.length (flatF F)) : ∃ pp cc, v = .slice pp F.length cc ∧ ∀ i f, F[i]? = some f → ∃ g, pp = some ⟨g, 0, none⟩ ∧ ∀ j u, f.cells[j]? = some u → W.cell? ⟨g, i * 8 + j, none⟩ = some u := by
  rcases h.2 with ⟨rfl, q⟩ | ⟨g, cap, cur, rfl, q1, q2, q3, q4, q5, q6⟩
  · refine ⟨none, 0, by rw [q], fun i f hf => ?_⟩
    have := (List.getElem?_eq_some_iff.1 hf).1
    omega
  · refine ⟨_, cap, rfl, fun i f hf => ⟨g, rfl, fun j u hu => ?_⟩⟩
    have := flatF_get F i f hf j u hu
    rw [← q6] at this
    refine cell_at q2 _ ?_
    have hlt := (List.getElem?_eq_some_iff.1 this).1
    rw [List.length_take] at hlt
    rw [List.getElem?_take_of_lt (by omega)] at this
    simpa using this
theorem div_range (n p : Int) (hp : 1 ≤ p) (hn : -9223372036854775808 ≤ n ∧ n ≤ 9223372036854775807) : -9223372036854775808 ≤ n / p ∧ n / p ≤ 9223372036854775807 := by
  refine ⟨Int.le_ediv_of_mul_le (by omega) ?_, ?_⟩
  · have : (-9223372036854775808) * p ≤ -9223372036854775808 * 1 := Int.mul_le_mul_of_nonpos_left (by decide) hp
    omega
  · have h : n / p < 9223372036854775808 := Int.ediv_lt_of_lt_mul (by omega) (by
      have : 9223372036854775808 * 1 ≤ 9223372036854775808 * p := Int.mul_le_mul_of_nonneg_left hp (by decide)
      omega)
    omega
set_option maxRecDepth 100000 in
set_option maxHeartbeats 6400000 in
theorem kept_any (c n : Int) (s : ByteArray) (w : World) (hL : Laid w) (hM : MaxL w) (hc : -9223372036854775808 ≤ c ∧ c ≤ 9223372036854775807) (hn : -9223372036854775808 ≤ n ∧ n ≤ 9223372036854775807) (hs : s.size ≤ 262144) :
    Calls Tryz.prog 6 #[.int .i64 c, .int .i64 n, .string s] w fun e w' => e = .returned (.bool true) ∧ Below w.heap.size w w' := by
  have HL : Hid (Laid w ∧ MaxL w) := ⟨hL, hM⟩
  have HP : Hid (Calls Tryz.prog 12 #[.int .i64 c, .int .i64 64] w fun e w' => e = .returned (.int .i64 (pk c 64)) ∧ w = w') := (pick_any c 64 w hc (by omega)).mono (fun _ _ z => ⟨z.1, z.2.symm⟩)
  have pb := pk_bd c 64 (by omega)
  obtain ⟨room, hroom⟩ : ∃ room : Nat, 1 + pk c 64 = (room : Int) := ⟨(1 + pk c 64).toNat, by omega⟩
  have hr1 : 1 ≤ room := by omega
  have hr2 : room ≤ 64 := by omega
  have HNW : Hid (Calls Tryz.prog 14 #[.int .i64 (room : Int)] w _) := plNew_any room hr1 hr2 w
  have HH : Hid (∀ W : World, Calls _ _ _ W _) := fun W => kheader_udp n (n / 256) (n / 8) W (by omega)
  have hR : Ranges (n % 4294967296) (n / 256 % 4294967296) 17 (IntKind.u16.wrap (n / 8)) (IntKind.u16.wrap (n / 8 / 65536)) 0 := by
    refine ⟨by omega, by omega, by omega, ?_, ?_, by omega⟩
    · rw [IntKind.wrap_u16]; omega
    · rw [IntKind.wrap_u16]; omega
  generalize n % 4294967296 = x0 at HH hR
  generalize n / 256 % 4294967296 = x1 at HH hR
  generalize IntKind.u16.wrap (n / 8) = x3 at HH hR
  generalize IntKind.u16.wrap (n / 8 / 65536) = x4 at HH hR
  have HR : Hid (∀ x, 0 ≤ x ∧ x ≤ 65535 → Ranges x0 x1 17 x x4 0) := fun x hx => ⟨hR.a, hR.b, hR.p, hx, hR.dp, hR.f⟩
  have HX3 : Hid (0 ≤ x3 ∧ x3 ≤ 65535) := hR.sp
  have hs1 : ¬ ((262144 : Int) < (s.size : Int)) := by omega
  have HS : Hid (s.size ≤ 262144) := hs
  generalize pk c 64 = pc at HP pb hroom
  clear hL hM hR hc hs
  go_enter Tryz.func6, Tryz.ntmps6
  go_upto_region 4 with (go_at_call 12; refine HP.out.mono ?_; rintro e w1 ⟨rfl, rfl⟩)
  go_upto_region 7 with (go_at_call 14; refine HNW.out.mono ?_; rintro e w2 ⟨Q, K, O, rfl, hg2, hb2, ho2⟩; have S2 : Hid (Spc w w w2 [] Q K none room 0 [] 0 0 0) := Spc.start hg2 hb2 ho2 (Below.refl _ _) (by intro g hg; cases hg); clear hg2 hb2 ho2)
  clear HP HNW
  go_upto_region 8 with (go_at_call 9; refine (HH.out _).mono ?_; rintro e w3 ⟨rfl, hb3⟩; have S3 : Hid (Spc w w w3 [] Q K none room 0 [] 0 0 0) := S2.out.below hb3; clear hb3)
  clear HH
  obtain ⟨W4, hW4⟩ : ∃ W4, w3.alloc (.cells #[.int .u32 x0, .int .u32 x1, .int .u8 17, .int .u16 x3, .int .u16 x4, .int .u8 0] 28) = W4 := ⟨_, rfl⟩
  rw [hW4]
  obtain ⟨B, hB⟩ : ∃ B, w3.heap.size = B := ⟨_, rfl⟩
  rw [hB]
  have HB4 : Hid (Blk 28 W4 B [.int .u32 x0, .int .u32 x1, .int .u8 17, .int .u16 x3, .int .u16 x4, .int .u8 0]) := by rw [← hW4, ← hB]; exact Blk.made w3 _ [.int .u32 x0, .int .u32 x1, .int .u8 17, .int .u16 x3, .int .u16 x4, .int .u8 0] (list_one rfl)
  have S4 : Hid (Spc w W4 W4 [B] Q K none room 0 [] 0 0 0) := S3.out.anew (by rw [← hW4]; exact (Below.refl _ _).alloc (Nat.le_refl _) _) (by intro g hg; obtain rfl := List.mem_singleton.1 hg; exact ⟨HB4.out.lt, .inr (by omega)⟩)
  have hwB : w.heap.size ≤ B := by rw [← hB]; exact S3.out.base.size
  have HBD : Hid (Calls _ _ _ W4 _) := build_udp x0 x1 x3 x4 (HR.out x3 HX3.out) W4
  clear hW4 hB S3 S2
  have c0 := HB4.out.cell 0 _ rfl
  have c1 := HB4.out.cell 1 _ rfl
  have c2 := HB4.out.cell 2 _ rfl
  have c3 := HB4.out.cell 3 _ rfl
  have c4 := HB4.out.cell 4 _ rfl
  have c5 := HB4.out.cell 5 _ rfl
  go_upto_region 11 with (go_at_call 10; refine HBD.out.mono ?_; rintro e w5 ⟨gf, rfl, hg5, hb5, hB5⟩; have HW5 : Hid (W4.heap.size ≤ gf ∧ Below W4.heap.size W4 w5 ∧ Buf w5 gf (frameI x0 x1 17 x3 x4 0 42 [])) := ⟨hg5, hb5, hB5⟩; clear hg5 hb5 hB5)
  clear c0 c1 c2 c3 c4 c5 HBD
  have HF5 : Hid (Frmu w5 gf _ ⟨x0, x1, 17, x3, x4, 0⟩) := frmu_built (HR.out x3 HX3.out) HW5.out.2.2
  have S5 : Hid (Spc w w5 w5 [B, gf] Q K none room 0 [] 0 0 0) := S4.out.anew HW5.out.2.1 (by
    intro g hg
    rcases List.mem_cons.1 hg with rfl | hg
    · exact ⟨Nat.lt_of_lt_of_le HB4.out.lt HW5.out.2.1.size, .inl (by simp)⟩
    · obtain rfl := List.mem_singleton.1 hg
      exact ⟨HW5.out.2.2.lt, .inr HW5.out.1⟩)
  have HB5 : Hid (Blk 28 w5 B [.int .u32 x0, .int .u32 x1, .int .u8 17, .int .u16 x3, .int .u16 x4, .int .u8 0]) := HB4.out.below HW5.out.2.1 HB4.out.lt
  clear S4 HB4 HW5
  generalize ofL (frameI x0 x1 17 x3 x4 0 42 []) = df at HF5
  have HFA : Hid (Calls Tryz.prog 15 #[.pointer (some ⟨Q, 0, none⟩), .int .u8 0, .slice (some ⟨gf, 0, none⟩) 42 42] w5 fun e w' => e = .returned (.int .u8 0) ∧ Spc w w5 w' [B, gf] Q K none room 0 [] 0 1 1) := spc_frame S5.out HL.out.1 (by omega) HF5.out 0 [] 0 1 (evN HF5.out.cls room 0 [] 0) (by decide)
  go_upto_region 14 with (go_at_call 15; refine HFA.out.mono ?_; rintro e w6 ⟨rfl, hs⟩; have S6 : Hid (Spc w w5 w6 [B, gf] Q K none room 0 [] 0 1 1) := hs; clear hs)
  clear HFA S5
  have HLD : Hid (Calls Tryz.prog 16 #[.pointer (some ⟨Q, 0, none⟩), .string (ba txA)] w6 fun e w' => e = .returned (.tuple #[.int .i64 0, .int .i64 0]) ∧ Spc w w5 w' [B, gf] Q K (some bkA) room 0 [] 0 1 1) := spc_load S6.out HL.out.1 HL.out.2 (ba txA) 0 bkA (by decide) readA
  go_upto_region 15 with (go_at_call 16; refine HLD.out.mono ?_; rintro e w7 ⟨rfl, hs⟩; have S7 : Hid (Spc w w5 w7 [B, gf] Q K (some bkA) room 0 [] 0 1 1) := hs; clear hs)
  clear HLD S6
  have HST : Hid (s ++ (⟨#[10, 102, 111, 111]⟩ : ByteArray) = ba (bl s ++ 10 :: wFoo)) := by
    show s ++ ba (10 :: wFoo) = _
    rw [← ba_append, ba_bl]
  have HLB : Hid (Calls Tryz.prog 16 #[.pointer (some ⟨Q, 0, none⟩), .string (ba (bl s ++ 10 :: wFoo))] w7 fun e w' => ∃ k n : Nat, k ≠ 0 ∧ e = .returned (.tuple #[.int .i64 (k : Int), .int .i64 (n : Int)]) ∧ Spc w w5 w' [B, gf] Q K (some bkA) room 0 [] 0 1 1) := spc_load_bad S7.out HL.out.1 HL.out.2 _ (by rw [← HST.out, ByteArray.size_append]; have := HS.out; show s.size + 4 ≤ _; unfold maxLen; omega) (read_foo _)
  generalize ba (bl s ++ 10 :: wFoo) = TS at HST HLB
  go_upto_region 16 with (go_at_call 16; rw [HST.out]; refine HLB.out.mono ?_; rintro e w8 ⟨bk, bn, hbk, rfl, hs⟩; have S8 : Hid (Spc w w5 w8 [B, gf] Q K (some bkA) room 0 [] 0 1 1) := hs; clear hs)
  clear HLB HST S7
  have HF8 : Hid (Frmu w8 gf df ⟨x0, x1, 17, x3, x4, 0⟩) := by
    have z := S8.out.row (g := gf) (by simp)
    exact ⟨row_of z.2 HF5.out.row, HF5.out.size, z.1, HF5.out.cls, HF5.out.hd⟩
  obtain ⟨F1, hF1⟩ : ∃ F1, (keepS room 0 [] ⟨x0, x1, 17, x3, x4, 0⟩).2 = F1 := ⟨_, rfl⟩
  have HU1 : Hid (Udp x0 x1 x4 0 F1) := by rw [← hF1]; exact Udp.keep (fun f hf => by cases hf) x3 (by omega)
  have HFB : Hid (Calls Tryz.prog 15 #[.pointer (some ⟨Q, 0, none⟩), .int .u8 0, .slice (some ⟨gf, 0, none⟩) 42 42] w8 fun e w' => e = .returned (.int .u8 1) ∧ Spc w w5 w' [B, gf] Q K (some bkA) room 0 F1 1 1 2) := spc_frame S8.out HL.out.1 (by omega) HF8.out 1 F1 1 1 (by rw [← hF1]; exact evA HF8.out.cls HF8.out.hd room 0 [] 0) (by decide)
  have tb : ((bk : Int) == 0) = false := by simpa using hbk
  clear hF1 HF5 HF8 hbk
  go_upto_region 19 with (go_at_call 15; refine HFB.out.mono ?_; rintro e w9 ⟨rfl, hs⟩; have S9 : Hid (Spc w w5 w9 [B, gf] Q K (some bkA) room 0 F1 1 1 2) := hs; clear hs)
  have HI : Hid (Spc w w9 w9 [B] Q K (some bkA) room 0 F1 1 1 2 ∧ Blk 28 w9 B [.int .u32 x0, .int .u32 x1, .int .u8 17, .int .u16 x3, .int .u16 x4, .int .u8 0]) := ⟨S9.out.anew (Below.refl _ _) (by intro g hg; obtain rfl := List.mem_singleton.1 hg; exact ⟨(S9.out.row (by simp)).1, .inl (by simp)⟩), ⟨(S9.out.row (by simp)).2.trans HB5.out.1, HB5.out.2⟩⟩
  clear HFB S8 S9 HB5 tb
  go_wp2_with fail
  go_loopg [15] (2 * room) (fun r i wx => ∃ (k now : Nat) (x : Int) (F : List Fl), r + k = 2 * room ∧ i = .int .i64 (k : Int) ∧ Hid (Spc w wx wx [B] Q K (some bkA) room now F (1 + k) 1 (2 + k) ∧ Blk 28 wx B [.int .u32 x0, .int .u32 x1, .int .u8 17, .int .u16 x, .int .u16 x4, .int .u8 0] ∧ Udp x0 x1 x4 now F ∧ now ≤ 2 * k))
  case atStart => exact ⟨0, 0, x3, F1, by omega, rfl, HI.out.1, HI.out.2, HU1.out, by omega⟩
  case round =>
    obtain ⟨k, now, x, F, hk, rfl, H1⟩ := hrel
    cases gk with
    | zero =>
      obtain rfl : k = 2 * room := by omega
      have tk : ¬ (((2 * room : Nat) : Int) < 2 * (room : Int)) := by omega
      have HLI : Hid (Calls Tryz.prog 18 #[.pointer (some ⟨Q, 0, none⟩)] wr fun e w' => ∃ pp cc, e = .returned (.slice pp F.length cc) ∧ Spc w wr w' [B] Q K (some bkA) room now F (1 + 2 * room) 1 (2 + 2 * room) ∧ ∀ i f, F[i]? = some f → ∃ g, pp = some ⟨g, 0, none⟩ ∧ ∀ j u, f.cells[j]? = some u → w'.cell? ⟨g, i * 8 + j, none⟩ = some u) := (spc_list H1.out.1).mono (fun e w' z => by
        obtain ⟨v, rfl, z1, z2⟩ := z
        obtain ⟨pp, cc, rfl, z3⟩ := list_cells z1
        exact ⟨pp, cc, rfl, H1.out.1.below z2, z3⟩)
      have tl : (F.length : Int) ≤ (room : Int) := by have := H1.out.1.len; omega
      have HU : Hid (Udp x0 x1 x4 now F ∧ now ≤ 2 * (2 * room)) := H1.out.2.2
      obtain ⟨L, hL⟩ : ∃ L, F.length = L := ⟨_, rfl⟩
      have HFL : Hid (F.length = L) := hL
      rw [hL] at HLI tl
      clear hL H1
      go_upto_region 30 with (go_at_call 18; refine HLI.out.mono ?_; rintro e y1 ⟨pp, cc, rfl, hs, hcl⟩; have U1 : Hid (Spc w wr y1 [B] Q K (some bkA) room now F (1 + 2 * room) 1 (2 + 2 * room)) := hs; have HCL : Hid (∀ i f, F[i]? = some f → ∃ g, pp = some ⟨g, 0, none⟩ ∧ ∀ j u, f.cells[j]? = some u → y1.cell? ⟨g, i * 8 + j, none⟩ = some u) := hcl; clear hs hcl)
      clear HLI
      have hL64 : L ≤ 64 := by omega
      have HNO : Hid (Calls Tryz.prog 19 #[.pointer (some ⟨Q, 0, none⟩)] y1 fun e w' => e = .returned (.int .u64 (now : Int)) ∧ y1 = w') := (spc_now U1.out).mono (fun _ _ z => ⟨z.1, z.2.symm⟩)
      go_wp2_with fail
      go_loopg [17, 18] L (fun r s17 s18 wx => ∃ k : Nat, r + k = L ∧ s17 = .bool true ∧ s18 = .int .i64 (k : Int) ∧ y1 = wx)
      case atStart => exact ⟨0, by omega, rfl, rfl, rfl⟩
      case round =>
        obtain ⟨k, hk, rfl, rfl, rfl⟩ := hrel
        cases gk with
        | zero =>
          obtain rfl : k = L := by omega
          have HCO : Hid (Calls _ _ _ y1 _) := spc_counts U1.out
          go_upto_region 36 with (go_at_call 20; refine HCO.out.mono ?_; rintro e y2 ⟨rfl, hs⟩; have U2 : Hid (Spc w wr y2 [B] Q K (some bkA) room now F (1 + 2 * room) 1 (2 + 2 * room)) := hs; clear hs)
          obtain ⟨C, hC⟩ : ∃ C, y2.heap.size = C := ⟨_, rfl⟩
          obtain ⟨Y3, hY3⟩ : ∃ Y3, y2.alloc (.cells #[.int .u64 (1 + 2 * (room : Int)), .int .u64 1, .int .u64 0, .int .u64 0] 56) = Y3 := ⟨_, rfl⟩
          rw [hY3, hC]
          have HC3 : Hid (Blk 56 Y3 C [.int .u64 (1 + 2 * (room : Int)), .int .u64 1, .int .u64 0, .int .u64 0]) := by rw [← hY3, ← hC]; exact Blk.made y2 _ [.int .u64 (1 + 2 * (room : Int)), .int .u64 1, .int .u64 0, .int .u64 0] (list_one rfl)
          have U3 : Hid (Spc w Y3 Y3 [C] Q K (some bkA) room now F (1 + 2 * room) 1 (2 + 2 * room)) := U2.out.anew (by rw [← hY3]; exact (Below.refl _ _).alloc (Nat.le_refl _) _) (by intro g hg; obtain rfl := List.mem_singleton.1 hg; exact ⟨HC3.out.lt, .inr (by omega)⟩)
          clear hC hY3 HCO U2
          have HTK : Hid (Calls Tryz.prog 17 #[.pointer (some ⟨Q, 0, none⟩), .int .u64 60] Y3 fun e w' => e = .returned (.tuple #[]) ∧ Spc w Y3 w' [C] Q K (some bkA) room (now + 60) [] (1 + 2 * room) 1 (2 + 2 * room)) := by
            have z := spc_tick U3.out 60 (by omega) (by have := HU.out.2; omega)
            rw [HU.out.1.ended] at z
            exact z
          go_upto_region 37 with (go_at_call 17; refine HTK.out.mono ?_; rintro e y4 ⟨rfl, hs⟩; have U4 : Hid (Spc w Y3 y4 [C] Q K (some bkA) room (now + 60) [] (1 + 2 * room) 1 (2 + 2 * room)) := hs; clear hs)
          have HLJ : Hid (Calls Tryz.prog 18 #[.pointer (some ⟨Q, 0, none⟩)] y4 fun e w' => ∃ pp cc, e = .returned (.slice pp 0 cc) ∧ Spc w Y3 w' [C] Q K (some bkA) room (now + 60) [] (1 + 2 * room) 1 (2 + 2 * room)) := (spc_list U4.out).mono (fun e w' z => by
            obtain ⟨v, rfl, z1, z2⟩ := z
            obtain ⟨pp, cc, rfl, z3⟩ := list_cells z1
            exact ⟨pp, cc, rfl, U4.out.below z2⟩)
          go_upto_region 38 with (go_at_call 18; refine HLJ.out.mono ?_; rintro e y5 ⟨pq, cq, rfl, hs⟩; have U5 : Hid (Spc w Y3 y5 [C] Q K (some bkA) room (now + 60) [] (1 + 2 * room) 1 (2 + 2 * room)) := hs; clear hs)
          have HC5 : Hid (Blk 56 y5 C [.int .u64 (1 + 2 * (room : Int)), .int .u64 1, .int .u64 0, .int .u64 0]) := ⟨(U5.out.row (by simp)).2.trans HC3.out.1, HC3.out.2⟩
          have k0 := HC5.out.cell 0 _ rfl
          have k1 := HC5.out.cell 1 _ rfl
          clear HLJ HTK
          go_wp2_with fail
          go_ret
          have z : (1 + 2 * (room : Int) + 1 == 2 + 2 * (room : Int)) = true := by simp; omega
          exact ⟨by show Ending.returned (.bool (1 + 2 * (room : Int) + 1 == 2 + 2 * (room : Int))) = _; rw [z], U5.out.base⟩
        | succ m =>
          have tk : (k : Int) < (L : Int) := by omega
          have tk0 : (0 : Int) ≤ (k : Int) := by omega
          obtain ⟨⟨a1, a2, a3, a4, a5, a6, a7, a8⟩, he⟩ : ∃ f, F[k]? = some f := ⟨_, List.getElem?_eq_getElem (by rw [HFL.out]; omega)⟩
          obtain ⟨g, rfl, hcl⟩ := HCL.out k _ he
          have u2 := hcl 2 _ rfl
          have u5 := hcl 5 _ rfl
          have u7 := hcl 7 _ rfl
          obtain ⟨_, _, _, q4, q5, q6, _⟩ := HU.out.1 _ (List.mem_of_getElem? he)
          dsimp only at q4 q5 q6 u2 u5 u7
          subst q4 q5
          have t7 : (now : Int) < (a8 : Int) := by omega
          clear hcl he q6
          go_wp2_with (go_at_call 19; refine HNO.out.mono ?_; rintro e y2 ⟨rfl, rfl⟩)
          go_roundg m
          case measure => omega
          case rel => exact ⟨k + 1, by omega, rfl, by simp, rfl⟩
    | succ m =>
      have tk : (k : Int) < 2 * (room : Int) := by omega
      have hkb : k ≤ 127 := by omega
      have c3 := H1.out.2.1.cell 3 _ rfl
      have f3 := H1.out.2.1.frozen 3
      go_upto_region 23 with fail
      obtain ⟨X, hX⟩ : ∃ X, IntKind.u16.wrap (wrap64 (n + 7 * (k : Int))) = X := ⟨_, rfl⟩
      rw [hX]
      have hXr : 0 ≤ X ∧ X ≤ 65535 := by rw [← hX, IntKind.wrap_u16]; omega
      have HRX : Hid (Ranges x0 x1 17 X x4 0) := HR.out X hXr
      obtain ⟨W1, hW1⟩ : ∃ W1, wr.setCell ⟨B, 3, none⟩ (.int .u16 X) = W1 := ⟨_, rfl⟩
      rw [hW1]
      have HB1 : Hid (Blk 28 W1 B [.int .u32 x0, .int .u32 x1, .int .u8 17, .int .u16 X, .int .u16 x4, .int .u8 0]) := by rw [← hW1]; exact H1.out.2.1.set 3 (.int .u16 X)
      have T1 : Hid (Spc w W1 W1 [B] Q K (some bkA) room now F (1 + k) 1 (2 + k)) := H1.out.1.store (g0 := B) (by simp) hwB (by rw [← hW1]; exact Trn.setCell (S := fun x => x = B) wr B 3 _ rfl)
      have HU : Hid (Udp x0 x1 x4 now F ∧ now ≤ 2 * k) := H1.out.2.2
      have HBD : Hid (Calls _ _ _ W1 _) := build_udp x0 x1 X x4 HRX.out W1
      clear c3 f3 hX hXr hW1 H1
      have d0 := HB1.out.cell 0 _ rfl
      have d1 := HB1.out.cell 1 _ rfl
      have d2 := HB1.out.cell 2 _ rfl
      have d3 := HB1.out.cell 3 _ rfl
      have d4 := HB1.out.cell 4 _ rfl
      have d5 := HB1.out.cell 5 _ rfl
      go_upto_region 26 with (go_at_call 10; refine HBD.out.mono ?_; rintro e v2 ⟨gh, rfl, hg2, hb2, hB2⟩; have HV2 : Hid (W1.heap.size ≤ gh ∧ Below W1.heap.size W1 v2 ∧ Buf v2 gh (frameI x0 x1 17 X x4 0 42 [])) := ⟨hg2, hb2, hB2⟩; clear hg2 hb2 hB2)
      clear d0 d1 d2 d3 d4 d5 HBD
      have HF2 : Hid (Frmu v2 gh _ ⟨x0, x1, 17, X, x4, 0⟩) := frmu_built HRX.out HV2.out.2.2
      generalize ofL (frameI x0 x1 17 X x4 0 42 []) = dh at HF2
      have T2 : Hid (Spc w W1 v2 [B] Q K (some bkA) room now F (1 + k) 1 (2 + k)) := T1.out.below HV2.out.2.1
      obtain ⟨F2, hF2⟩ : ∃ F2, (keepS room now F ⟨x0, x1, 17, X, x4, 0⟩).2 = F2 := ⟨_, rfl⟩
      have HU2 : Hid (Udp x0 x1 x4 now F2) := by rw [← hF2]; exact Udp.keep HU.out.1 X (by have := HU.out.2; omega)
      have HFC : Hid (Calls Tryz.prog 15 #[.pointer (some ⟨Q, 0, none⟩), .int .u8 0, .slice (some ⟨gh, 0, none⟩) 42 42] v2 fun e w' => e = .returned (.int .u8 1) ∧ Spc w W1 w' [B] Q K (some bkA) room now F2 (1 + (1 + k)) 1 (2 + k + 1)) := spc_frame T2.out HL.out.1 (by omega) HF2.out 1 F2 (1 + (1 + k)) 1 (by rw [← hF2]; exact evA HF2.out.cls HF2.out.hd room now F 0) ⟨by show 1 + (1 + k) = _; rfl, by decide, by decide, by decide⟩
      clear hF2 HF2 HRX
      go_upto_region 27 with (go_at_call 15; refine HFC.out.mono ?_; rintro e v3 ⟨rfl, hs⟩; have T3 : Hid (Spc w W1 v3 [B] Q K (some bkA) room now F2 (1 + (1 + k)) 1 (2 + k + 1)) := hs; clear hs)
      clear HFC T2 T1
      have pq := pk_bd (n / 2 ^ min k 64) 3 (by omega)
      have HPK : Hid (Calls Tryz.prog 12 #[.int .i64 (n / 2 ^ min k 64), .int .i64 3] v3 fun e w' => e = .returned (.int .i64 (pk (n / 2 ^ min k 64) 3)) ∧ v3 = w') := (pick_any _ 3 v3 (div_range n _ (by have : (0 : Int) < 2 ^ min k 64 := Int.pow_pos (by decide); omega) hn) (by omega)).mono (fun _ _ z => ⟨z.1, z.2.symm⟩)
      obtain ⟨tt, htt⟩ : ∃ tt : Nat, pk (n / 2 ^ min k 64) 3 = (tt : Int) := ⟨(pk (n / 2 ^ min k 64) 3).toNat, by omega⟩
      rw [htt] at HPK pq
      clear htt
      have HTK : Hid (Calls _ _ _ v3 _) := spc_tick T3.out tt (by omega) (by have := HU.out.2; omega)
      go_wp2_with (first | (go_at_call 12; refine HPK.out.mono ?_; rintro e v4 ⟨rfl, rfl⟩) | (go_at_call 17; refine HTK.out.mono ?_; rintro e v5 ⟨rfl, hs⟩; have T5 : Hid (Spc w W1 v5 [B] Q K (some bkA) room (now + tt) (aliveD (now + tt) F2) (1 + (1 + k)) 1 (2 + k + 1)) := hs; clear hs))
      go_roundg m
      case measure => omega
      case rel =>
        refine ⟨k + 1, now + tt, X, aliveD (now + tt) F2, by omega, by simp, ?_, ⟨?_, HB1.out.2⟩, HU2.out.tick tt, by have := HU.out.2; omega⟩
        · have z := T5.out.anew (Ks' := [B]) (Below.refl _ _) (by intro g hg; obtain rfl := List.mem_singleton.1 hg; exact ⟨(T5.out.row (by simp)).1, .inl (by simp)⟩)
          rw [show 1 + (k + 1) = 1 + (1 + k) by omega]
          exact z
        · exact (T5.out.row (by simp)).2.trans HB1.out.1
theorem kept_all (c n : Int) (s : ByteArray) (w : World) (hL : Laid w) (hM : MaxL w) (hc : -9223372036854775808 ≤ c ∧ c ≤ 9223372036854775807) (hn : -9223372036854775808 ≤ n ∧ n ≤ 9223372036854775807) :
    Calls Tryz.prog 6 #[.int .i64 c, .int .i64 n, .string s] w fun e w' => e = .returned (.bool true) ∧ Below w.heap.size w w' := by
  by_cases h : 262144 < s.size
  · exact kept_long c n s w h
  · exact kept_any c n s w hL hM hc hn (by omega)
end Go.Proofs.YtclpnafiiobfhabGreatDoor

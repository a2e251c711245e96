import Derived.Test.YtclpnafiiobfhaaGreatDoorRFormed
import Derived.Test.YtclpnafiiobfhaaGreatDoorBits
import Derived.Laws.BitsAllLaws
import Derived.Deep.QuietTactic
import Derived.BigQuiet
namespace Go.Proofs.YtclpnafiiobfhaaGreatDoor
open Go.RowKit
set_option linter.unusedVariables false
set_option linter.unusedSimpArgs false

theorem i64_and32 (a b : Int) (h1 : 0 ≤ a) (h2 : a ≤ 4294967295) (h3 : 0 ≤ b) (h4 : b ≤ 4294967295) : bits .and .i64 a b = ((a.toNat &&& b.toNat : Nat) : Int) := by
  obtain ⟨A, rfl⟩ := Int.eq_ofNat_of_zero_le h1
  obtain ⟨B, rfl⟩ := Int.eq_ofNat_of_zero_le h3
  have hx : A &&& B < 2 ^ 32 := Nat.and_lt_two_pow _ (by omega)
  show IntKind.i64.wrap ((BitVec.ofInt 64 (A : Int) &&& BitVec.ofInt 64 (B : Int)).toNat : Int) = _
  rw [BitVec.toNat_and, ofInt_u64 A (by omega), ofInt_u64 B (by omega), IntKind.wrap_i64]
  simp only [Int.toNat_natCast]
  omega
theorem rget_set_self {α : Type} (l : List α) (j : Nat) (x d : α) (h : j < l.length) : (l.set j x).getD j d = x := by
  simp [List.getD_eq_getElem?_getD, h]
theorem rget_set_ne {α : Type} (l : List α) (i j : Nat) (x d : α) (h : i ≠ j) : (l.set i x).getD j d = l.getD j d := by
  simp [List.getD_eq_getElem?_getD, List.getElem?_set, h]
theorem rcell_off (w : World) (g i j : Nat) (v : Value) (h : i ≠ j) : (w.setCell ⟨g, i, none⟩ v).cell? ⟨g, j, none⟩ = w.cell? ⟨g, j, none⟩ :=
  World.cell?_setCell_other _ _ _ _ (by intro e; apply h; cases e; rfl)
theorem rcell_far (w : World) (a b i j : Nat) (v : Value) (h : a ≠ b) : (w.setCell ⟨a, i, none⟩ v).cell? ⟨b, j, none⟩ = w.cell? ⟨b, j, none⟩ :=
  World.cell?_setCell_other _ _ _ _ (by intro e; apply h; cases e; rfl)
/-- the registers of the document's answer, and what else it reads -/
structure Rm (w : World) (R S M g : Nat) (s : ByteArray) (n : Nat) (q : Int × Int) (a : St) : Prop where
  reg : ∀ i, i < 4 → w.cell? ⟨R, i, none⟩ = some (.int .i64 (a.reg.getD i 0))
  set : ∀ i, i < 4 → w.cell? ⟨S, i, none⟩ = some (.bool (a.set.getD i false))
  fr : ∀ i, w.frozen? ⟨R, i, none⟩ = false
  fs : ∀ i, w.frozen? ⟨S, i, none⟩ = false
  m0 : w.cell? ⟨M, 0, none⟩ = some (.int .u32 q.1)
  m1 : w.cell? ⟨M, 1, none⟩ = some (.int .u32 q.2)
  rd : Rd w g s n
  lr : R < w.heap.size
  ls : S < w.heap.size
  lm : M < w.heap.size
theorem Rm.below {w w' : World} {R S M g n : Nat} {s : ByteArray} {q : Int × Int} {a : St} (h : Rm w R S M g s n q a) (hw : Below w.heap.size w w') : Rm w' R S M g s n q a := by
  have hc : ∀ b i, b < w.heap.size → w'.cell? ⟨b, i, none⟩ = w.cell? ⟨b, i, none⟩ := fun b i hb => hw.cell (p := ⟨b, i, none⟩) hb
  have hf : ∀ b i, b < w.heap.size → w'.frozen? ⟨b, i, none⟩ = w.frozen? ⟨b, i, none⟩ := fun b i hb => hw.frozen (p := ⟨b, i, none⟩) hb
  exact ⟨fun i hi => (hc _ _ h.lr).trans (h.reg i hi), fun i hi => (hc _ _ h.ls).trans (h.set i hi), fun i => (hf _ _ h.lr).trans (h.fr i), fun i => (hf _ _ h.ls).trans (h.fs i), (hc _ _ h.lm).trans h.m0, (hc _ _ h.lm).trans h.m1, h.rd.below hw, Nat.lt_of_lt_of_le h.lr hw.size, Nat.lt_of_lt_of_le h.ls hw.size, Nat.lt_of_lt_of_le h.lm hw.size⟩
theorem Rm.drew {w : World} {R S M g n : Nat} {s : ByteArray} {q : Int × Int} {a : St} (h : Rm w R S M g s n q a) : Rm w.drew R S M g s n q a :=
  ⟨h.reg, h.set, h.fr, h.fs, h.m0, h.m1, ⟨h.rd.op, h.rd.r, h.rd.t, h.rd.f, h.rd.k, h.rd.lt⟩, h.lr, h.ls, h.lm⟩
theorem Rm.drewN {w : World} {R S M g n : Nat} {s : ByteArray} {q : Int × Int} {a : St} (h : Rm w R S M g s n q a) (k : Nat) : Rm (w.drewN k) R S M g s n q a :=
  ⟨h.reg, h.set, h.fr, h.fs, h.m0, h.m1, ⟨h.rd.op, h.rd.r, h.rd.t, h.rd.f, h.rd.k, h.rd.lt⟩, h.lr, h.ls, h.lm⟩
theorem Rd.far {w : World} {g n b i : Nat} {s : ByteArray} (h : Rd w g s n) (hb : b ≠ g) (v : Value) : Rd (w.setCell ⟨b, i, none⟩ v) g s n := by
  have hc : ∀ j, (w.setCell ⟨b, i, none⟩ v).cell? ⟨g, j, none⟩ = w.cell? ⟨g, j, none⟩ := fun j => rcell_far _ _ _ _ _ _ hb
  exact ⟨fun j hj => (hc _).trans (h.op j hj), fun j hj => (hc _).trans (h.r j hj), fun j hj => (hc _).trans (h.t j hj), fun j hj => (hc _).trans (h.f j hj), fun j hj => (hc _).trans (h.k j hj), by simp [World.setCell]; exact h.lt⟩
theorem Rm.turn {w : World} {R S M g n : Nat} {s : ByteArray} {q : Int × Int} {a : St} (h : Rm w R S M g s n q a) (ha : a.Ok) (x : Ins) (hr : 0 ≤ x.r ∧ x.r < 4) (hRS : R ≠ S) (hRM : R ≠ M) (hRg : R ≠ g) (v : Int) : Rm (w.setCell ⟨R, x.r.toNat, none⟩ (.int .i64 v)) R S M g s n q (a.turn x v) := by
  have hz : (w.setCell ⟨R, x.r.toNat, none⟩ (.int .i64 v)).heap.size = w.heap.size := by simp [World.setCell]
  refine ⟨fun i hi => ?_, fun i hi => (rcell_far _ _ _ _ _ _ hRS).trans (h.set i hi), fun i => by simp [h.fr], fun i => by simp [h.fs], (rcell_far _ _ _ _ _ _ hRM).trans h.m0, (rcell_far _ _ _ _ _ _ hRM).trans h.m1, h.rd.far hRg _, by rw [hz]; exact h.lr, by rw [hz]; exact h.ls, by rw [hz]; exact h.lm⟩
  unfold St.turn
  by_cases e : x.r.toNat = i
  · subst e
    rw [rget_set_self _ _ _ _ (by rw [ha.reg]; omega)]
    exact World.cell?_setCell_same _ _ _ (h.reg _ hi)
  · rw [rget_set_ne _ _ _ _ _ e]
    exact (rcell_off _ _ _ _ _ e).trans (h.reg i hi)
theorem Rm.put {w : World} {R S M g n : Nat} {s : ByteArray} {q : Int × Int} {a : St} (h : Rm w R S M g s n q a) (ha : a.Ok) (x : Ins) (hr : 0 ≤ x.r ∧ x.r < 4) (hRS : R ≠ S) (hRM : R ≠ M) (hRg : R ≠ g) (hSM : S ≠ M) (hSg : S ≠ g) (v : Int) : Rm ((w.setCell ⟨R, x.r.toNat, none⟩ (.int .i64 v)).setCell ⟨S, x.r.toNat, none⟩ (.bool true)) R S M g s n q (a.put x v) := by
  have k := h.turn ha x hr hRS hRM hRg v
  generalize w.setCell ⟨R, x.r.toNat, none⟩ (.int .i64 v) = u at k
  have hz : (u.setCell ⟨S, x.r.toNat, none⟩ (.bool true)).heap.size = u.heap.size := by simp [World.setCell]
  refine ⟨fun i hi => (rcell_far _ _ _ _ _ _ (Ne.symm hRS)).trans (k.reg i hi), fun i hi => ?_, fun i => by simp [k.fr], fun i => by simp [k.fs], (rcell_far _ _ _ _ _ _ hSM).trans k.m0, (rcell_far _ _ _ _ _ _ hSM).trans k.m1, k.rd.far hSg _, by rw [hz]; exact k.lr, by rw [hz]; exact k.ls, by rw [hz]; exact k.lm⟩
  unfold St.put
  by_cases e : x.r.toNat = i
  · subst e
    rw [rget_set_self _ _ _ _ (by rw [ha.set]; omega)]
    exact World.cell?_setCell_same _ _ _ (k.set _ hi)
  · rw [rget_set_ne _ _ _ _ _ e]
    exact (rcell_off _ _ _ _ _ e).trans (k.set i hi)

set_option maxRecDepth 100000 in
set_option maxHeartbeats 800000 in
theorem rexec_torn (s d : ByteArray) (q : Int × Int) (i : Nat) (w : World) (hs : s.size ≤ maxLen) (h : Torn s i) :
    Calls Tryz.prog 15 #[.string s, .string d, .agg #[.int .u32 q.1, .int .u32 q.2]] w fun e w' => e = .returned (.tuple #[.int .i64 0, .int .i64 0, .int .i64 10]) ∧ Below w.heap.size w w' := by
  have HF : Hid (∀ w, Calls Tryz.prog 34 #[.string s] w _) := fun w => formed_torn s i w hs h
  clear h
  go_enter Tryz.func15, Tryz.ntmps15
  go_wp2_with fail
  refine (HF.out _).mono ?_
  rintro e w1 ⟨rfl, hb⟩
  have HB : Hid (Below w.heap.size w w1) := ((Below.refl _ _).alloc (Nat.le_refl _) _).trans (hb.mono (by simp))
  clear HF hb
  go_wp2_with fail
  go_ret3
  exact ⟨rfl, HB.out⟩

set_option maxRecDepth 100000 in
set_option maxHeartbeats 12800000 in
theorem rexec_run (s d : ByteArray) (n : Nat) (q : Int × Int) (v : Int) (z : Nat) (k : Int) (w : World) (hF : Formed s n) (hG : Goes s n d q 0 0 st0 v z k) (hd : d.size ≤ 262144) (q0 : 0 ≤ q.1 ∧ q.1 ≤ 4294967295) (q1 : 0 ≤ q.2 ∧ q.2 ≤ 4294967295) :
    Calls Tryz.prog 15 #[.string s, .string d, .agg #[.int .u32 q.1, .int .u32 q.2]] w fun e w' => e = .returned (.tuple #[.int .i64 v, .int .i64 z, .int .i64 k]) ∧ Below w.heap.size w w' := by
  have HFm : Hid (∀ w, Calls Tryz.prog 34 #[.string s] w _) := fun w => formed_fine s n w hF
  have HD : Hid (∀ w, Calls Tryz.prog 35 #[.string s] w _) := fun w => decode_any s n w hF.toSized
  have HF : Hid (Formed s n) := hF
  have HG : Hid (Goes s n d q 0 0 st0 v z k) := hG
  have hn1 := hF.pos
  have hn2 := hF.most
  have hdm : d.size ≤ maxLen := by unfold maxLen; omega
  clear hF hG
  go_enter Tryz.func15, Tryz.ntmps15
  go_wp2_with fail
  refine (HFm.out _).mono ?_
  rintro e w1 ⟨rfl, hb1⟩
  have HB1 : Hid (Below w.heap.size w w1) := ((Below.refl _ _).alloc (Nat.le_refl _) _).trans (hb1.mono (by simp))
  have e0 : w1.cell? ⟨w.heap.size, 0, none⟩ = some (.int .u32 q.1) := by rw [hb1.cell (p := ⟨w.heap.size, 0, none⟩) (by simp), World.cell?_alloc_at _ _ _ _ rfl]; rfl
  have e1 : w1.cell? ⟨w.heap.size, 1, none⟩ = some (.int .u32 q.2) := by rw [hb1.cell (p := ⟨w.heap.size, 1, none⟩) (by simp), World.cell?_alloc_at _ _ _ _ rfl]; rfl
  have hs1 : w.heap.size < w1.heap.size := by have := hb1.size; simp at this; omega
  clear hb1 HFm
  go_wp2_with fail
  refine (HD.out _).mono ?_
  rintro e w2 ⟨g, cap, rfl, hb2, hg, hR⟩
  have HB2 : Hid (Below w.heap.size w w2) := HB1.out.trans (hb2.mono HB1.out.size)
  have HR : Hid (Rd w2 g s n) := hR
  have HE0 : Hid (w2.cell? ⟨w.heap.size, 0, none⟩ = some (.int .u32 q.1)) := (hb2.cell (p := ⟨w.heap.size, 0, none⟩) hs1).trans e0
  have HE1 : Hid (w2.cell? ⟨w.heap.size, 1, none⟩ = some (.int .u32 q.2)) := (hb2.cell (p := ⟨w.heap.size, 1, none⟩) hs1).trans e1
  have hs2 : w1.heap.size ≤ w2.heap.size := hb2.size
  have gl : g < w2.heap.size := hR.lt
  clear hb2 hR HD e0 e1
  go_wp2_with fail
  go_loopw [14, 15] (fun dn at_ wr => ∃ (i c : Nat) (a : St), dn = .int .i64 c ∧ at_ = .int .i64 i ∧ Hid (Goes s n d q i c a v z k) ∧ Hid a.Ok ∧ Hid (Rm wr w2.heap.size (w2.heap.size + 1) w.heap.size g s n q a) ∧ Hid (Below w.heap.size w wr) ∧ i ≤ 8589934592 ∧ c ≤ i) (fun _ at_ _ => n - (intOf at_).toNat)
  case atStart =>
    refine ⟨0, 0, st0, rfl, rfl, HG.out, st0_ok, ?_, ?_, by omega, by omega⟩
    · refine ⟨fun i hi => ?_, fun i hi => ?_, fun i => ?_, fun i => World.frozen?_alloc_at _ _ _ _ (by simp), ?_, ?_, ?_, by simp; omega, by simp, by simp; omega⟩
      · rw [World.cell?_alloc_lt _ _ _ (by simp), World.cell?_alloc_at _ _ _ _ rfl]
        have : i = 0 ∨ i = 1 ∨ i = 2 ∨ i = 3 := by omega
        rcases this with rfl | rfl | rfl | rfl <;> rfl
      · rw [World.cell?_alloc_at _ _ _ _ (by simp)]
        have : i = 0 ∨ i = 1 ∨ i = 2 ∨ i = 3 := by omega
        rcases this with rfl | rfl | rfl | rfl <;> rfl
      · refine (Below.frozen (B := w2.heap.size + 1) (p := ⟨w2.heap.size, i, none⟩) ((Below.refl _ _).alloc (by simp) _) (by simp)).trans ?_
        exact World.frozen?_alloc_at _ _ _ _ rfl
      · rw [World.cell?_alloc_lt _ _ _ (by simp; omega), World.cell?_alloc_lt _ _ _ (by show w.heap.size < _; omega)]; exact HE0.out
      · rw [World.cell?_alloc_lt _ _ _ (by simp; omega), World.cell?_alloc_lt _ _ _ (by show w.heap.size < _; omega)]; exact HE1.out
      · refine HR.out.below ?_
        exact ((Below.refl _ _).alloc (Nat.le_refl _) _).alloc (by simp) _
    · refine HB2.out.trans ?_
      exact ((Below.refl _ _).alloc HB2.out.size _).alloc (by have := HB2.out.size; simp; omega) _
  case round =>
    obtain ⟨i, c, a, rfl, rfl, HGo, HOk, HM, HB, ib, ci⟩ := hrel
    by_cases hlt : i < n
    · obtain ⟨x, hx⟩ : ∃ x, insAt s i = x := ⟨_, rfl⟩
      have HX : Hid (insAt s i = x) := hx
      have hbd : x.Bd := by rw [← hx]; exact insAt_bd s i
      have hfit : x.fits = true := by rw [← hx]; exact HF.out.fits i hlt
      have hfit' := hfit
      unfold Ins.fits at hfit'
      simp only [Bool.and_eq_true, decide_eq_true_eq] at hfit'
      obtain ⟨⟨⟨ho11, hr4⟩, _⟩, hkk⟩ := hfit'
      have c0 := HM.out.rd.op i hlt
      have c1 := HM.out.rd.r i hlt
      have c2 := HM.out.rd.t i hlt
      have c3 := HM.out.rd.f i hlt
      have c4 := HM.out.rd.k i hlt
      rw [hx] at c0 c1 c2 c3 c4
      have cs := HM.out.set x.r.toNat (by have := hbd.r; omega)
      obtain ⟨hs, hhs⟩ : ∃ hs, a.set.getD x.r.toNat false = hs := ⟨_, rfl⟩
      have HHS : Hid (a.set.getD x.r.toNat false = hs) := hhs
      rw [hhs] at cs
      have lr := HM.out.lr
      have ls := HM.out.ls
      have lg := HM.out.rd.lt
      have nr : w2.heap.size ≠ wr.heap.size := by omega
      have ns : w2.heap.size + 1 ≠ wr.heap.size := by omega
      have ng : g ≠ wr.heap.size := by omega
      have bo := hbd.op
      have br0 := hbd.r
      have HKK : Hid (x.fits = true) := hfit
      clear hx hhs hfit hkk
      go_upto_region 13 with fail
      go_cut [56] from 42 to 55 (fun v wx => v = .bool (x.uses && !hs) ∧ wx = wr.alloc (.cells #[.int .i64 x.op, .int .i64 x.r, .int .i64 x.t, .int .i64 x.f, .int .i64 x.k] 82))
      case first =>
        rcases Int.lt_or_le x.op 6 with g6 | g6
        · have hu : x.uses = false := by unfold Ins.uses Ins.branch; simp only [Bool.or_eq_false_iff, beq_eq_false_iff_ne]; omega
          go_wp2_with fail
          go_meet
          exact ⟨by rw [hu]; rfl, rfl⟩
        rcases Int.lt_or_le 10 x.op with g10 | g10
        · have hu : x.uses = false := by unfold Ins.uses Ins.branch; simp only [Bool.or_eq_false_iff, beq_eq_false_iff_ne]; omega
          go_wp2_with fail
          go_meet
          exact ⟨by rw [hu]; rfl, rfl⟩
        have hu : x.uses = true := by
          unfold Ins.uses Ins.branch
          have : x.op = 6 ∨ x.op = 7 ∨ x.op = 8 ∨ x.op = 9 ∨ x.op = 10 := by omega
          rcases this with h | h | h | h | h <;> simp [h]
        go_wp2_with fail
        go_meet
        exact ⟨by rw [hu]; simp, rfl⟩
      case rest =>
        obtain ⟨rfl, hwx⟩ := hcut
        subst hwx
        obtain ⟨bad, hbad⟩ : ∃ bad, (x.uses && !hs) = bad := ⟨_, rfl⟩
        rw [hbad]
        have HBAD : Hid ((x.uses && !hs) = bad) := hbad
        clear hbad cs
        have HAl : Hid (Below wr.heap.size wr (wr.alloc (.cells #[.int .i64 x.op, .int .i64 x.r, .int .i64 x.t, .int .i64 x.f, .int .i64 x.k] 82))) := (Below.refl _ _).alloc (Nat.le_refl _) _
        cases bad
        · have hWd := fun w => wide_any x w hbd
          unfold refV at hWd
          have HWD : Hid (∀ w, Calls _ _ _ w _) := hWd
          obtain ⟨wd, hwd⟩ : ∃ wd, x.wide = wd := ⟨_, rfl⟩
          have HWE : Hid (x.wide = wd) := hwd
          have bwd : 0 ≤ wd ∧ wd ≤ 4294967299 := by rw [← hwd]; have := hbd.k; unfold Ins.wide; repeat' split
                                                    all_goals omega
          clear hWd hwd
          go_wp2_with fail
          refine (HWD.out _).mono ?_
          rintro e w4 ⟨rfl, hb4⟩
          rw [HWE.out]
          have HB4 : Hid (Below wr.heap.size wr w4) := HAl.out.trans (hb4.mono (by simp))
          have i0 : w4.cell? ⟨wr.heap.size, 0, none⟩ = some (.int .i64 x.op) := by rw [hb4.cell (p := ⟨wr.heap.size, 0, none⟩) (by simp), World.cell?_alloc_at _ _ _ _ rfl]; rfl
          have i1 : w4.cell? ⟨wr.heap.size, 1, none⟩ = some (.int .i64 x.r) := by rw [hb4.cell (p := ⟨wr.heap.size, 1, none⟩) (by simp), World.cell?_alloc_at _ _ _ _ rfl]; rfl
          have i2 : w4.cell? ⟨wr.heap.size, 2, none⟩ = some (.int .i64 x.t) := by rw [hb4.cell (p := ⟨wr.heap.size, 2, none⟩) (by simp), World.cell?_alloc_at _ _ _ _ rfl]; rfl
          have i3 : w4.cell? ⟨wr.heap.size, 3, none⟩ = some (.int .i64 x.f) := by rw [hb4.cell (p := ⟨wr.heap.size, 3, none⟩) (by simp), World.cell?_alloc_at _ _ _ _ rfl]; rfl
          have i4 : w4.cell? ⟨wr.heap.size, 4, none⟩ = some (.int .i64 x.k) := by rw [hb4.cell (p := ⟨wr.heap.size, 4, none⟩) (by simp), World.cell?_alloc_at _ _ _ _ rfl]; rfl
          have HM4 : Hid (Rm w4 w2.heap.size (w2.heap.size + 1) w.heap.size g s n q a) := HM.out.below HB4.out
          have HBw : Hid (Below w.heap.size w w4) := HB.out.trans (HB4.out.mono HB.out.size)
          have lw4 : wr.heap.size < w4.heap.size := by have := hb4.size; simp at this; omega
          clear hb4 c0 c1 c2 c3 c4
          rcases Int.lt_or_le (d.size : Int) wd with hlw | hlw
          · have HRes : Hid (v = 0 ∧ z = c + 1 ∧ k = 22) := by
              have htr : a.trap d x = 22 := by
                unfold St.trap
                rw [HHS.out, HBAD.out, if_neg (by decide), HWE.out, if_pos hlw]
              have hop : x.op ≠ 0 := by
                intro e
                have : x.wide = 0 := by unfold Ins.wide; rw [e]; rfl
                rw [HWE.out] at this; omega
              have hg := HGo.out
              rcases hg.out with ⟨h, rfl, rfl, rfl⟩ | ⟨h, ho, rfl, rfl, rfl⟩ | ⟨h, ho, ht, rfl, rfl, rfl⟩ | ⟨h, ho, ht, hg⟩
              · omega
              · rw [HX.out] at ho; exact absurd ho hop
              · exact ⟨rfl, rfl, by rw [HX.out, htr]⟩
              · rw [HX.out, htr] at ht; exact absurd ht (by decide)
            go_wp2_with fail
            go_ret3
            obtain ⟨rfl, rfl, rfl⟩ := HRes.out
            exact ⟨rfl, HBw.out⟩
          · have HTR : Hid (a.trap d x = 0) := by
              show a.trap d x = 0
              unfold St.trap
              rw [HHS.out, HBAD.out, if_neg (by decide), HWE.out, if_neg (by omega)]
            have HSt : Hid (x.op ≠ 0 → Goes s n d q (i + 1 + (a.over x).toNat) (c + 1) (a.does d q x) v z k) := by
              intro hop
              have hg := HGo.out
              rcases hg.out with ⟨h, rfl, rfl, rfl⟩ | ⟨h, ho, rfl, rfl, rfl⟩ | ⟨h, ho, ht, rfl, rfl, rfl⟩ | ⟨h, ho, ht, hg⟩
              · omega
              · rw [HX.out] at ho; exact absurd ho hop
              · rw [HX.out] at ht; exact absurd HTR.out ht
              · rw [HX.out] at hg; exact hg
            have HRt : Hid (x.op = 0 → v = x.k ∧ z = c + 1 ∧ k = 0) := by
              intro hop
              have hg := HGo.out
              rcases hg.out with ⟨h, rfl, rfl, rfl⟩ | ⟨h, ho, rfl, rfl, rfl⟩ | ⟨h, ho, ht, rfl, rfl, rfl⟩ | ⟨h, ho, ht, hg⟩
              · omega
              · exact ⟨by rw [HX.out], rfl, rfl⟩
              · rw [HX.out] at ho; exact absurd hop ho
              · rw [HX.out] at ho; exact absurd hop ho
            have HOv : Hid (0 ≤ a.over x ∧ a.over x ≤ 4294967295) := a.over_bd hbd
            have HOkd : Hid (a.does d q x).Ok := HOk.out.does (by omega) q0 q1 x
            have cr := HM4.out.reg x.r.toNat (by omega)
            have fr := HM4.out.fr x.r.toNat
            have fs := HM4.out.fs x.r.toNat
            have csx := HM4.out.set x.r.toNat (by omega)
            have bv := HOk.out.at x
            obtain ⟨rv, hrv⟩ : ∃ rv, a.at x = rv := ⟨_, rfl⟩
            have HRV : Hid (a.at x = rv) := hrv
            have hrv' : a.reg.getD x.r.toNat 0 = rv := hrv
            rw [hrv'] at cr
            rw [hrv] at bv
            have bk := hbd.k
            have bt := hbd.t
            have bf := hbd.f
            have m0 := HM4.out.m0
            have m1 := HM4.out.m1
            have nRS : w2.heap.size ≠ w2.heap.size + 1 := by omega
            have nRP : w2.heap.size ≠ wr.heap.size := by omega
            have nSP : w2.heap.size + 1 ≠ wr.heap.size := by omega
            have HPut : Hid (∀ val, a.does d q x = a.put x val → Rm ((w4.setCell ⟨w2.heap.size, x.r.toNat, none⟩ (.int .i64 val)).setCell ⟨w2.heap.size + 1, x.r.toNat, none⟩ (.bool true)) w2.heap.size (w2.heap.size + 1) w.heap.size g s n q (a.does d q x)) := fun val e => by
              rw [e]; exact HM4.out.put HOk.out x ⟨br0.1, hr4⟩ (by omega) (by omega) (by omega) (by omega) (by omega) val
            have HTu : Hid (∀ val, a.does d q x = a.turn x val → Rm (w4.setCell ⟨w2.heap.size, x.r.toNat, none⟩ (.int .i64 val)) w2.heap.size (w2.heap.size + 1) w.heap.size g s n q (a.does d q x)) := fun val e => by
              rw [e]; exact HM4.out.turn HOk.out x ⟨br0.1, hr4⟩ (by omega) (by omega) (by omega) val
            clear hrv hrv'
            obtain ⟨op, r, t, f, kx⟩ := x
            dsimp only at *
            have hc : op = 0 ∨ op = 1 ∨ op = 2 ∨ op = 3 ∨ op = 4 ∨ op = 5 ∨ op = 6 ∨ op = 7 ∨ op = 8 ∨ op = 9 ∨ op = 10 ∨ op = 11 := by omega
            rcases hc with rfl | rfl | rfl | rfl | rfl | rfl | rfl | rfl | rfl | rfl | rfl | rfl
            · as_aux_lemma =>
              go_wp2_with fail
              go_ret3
              obtain ⟨rfl, rfl, rfl⟩ := HRt.out trivial
              exact ⟨rfl, HBw.out⟩
            · as_aux_lemma =>
              have ew : kx + 1 = wd := by rw [← HWE.out]; rfl
              subst ew
              have hN := num_any d kx 1 w4 hdm (by omega) (by omega) (by omega) (by omega)
              have HN : Hid (Calls _ _ _ w4 _) := hN
              have en : kx + 1 - kx = 1 := by omega
              clear hN
              go_wp2_with fail
              (try rw [en])
              refine HN.out.mono ?_
              rintro e w5 ⟨rfl, hw5⟩
              obtain rfl : w4 = w5 := hw5.symm
              go_wp2_with fail
              go_roundw
              case rel =>
                have hst := HSt.out (by decide)
                have hov : a.over ⟨1, r, t, f, kx⟩ = (0 : Int) := by simp [St.over, Ins.branch]
                rw [hov] at hst
                refine ⟨_, c + 1, _, by go_num, by simp, hst, HOkd.out, ?_, ?_, by omega, by omega⟩
                · exact HPut.out _ rfl
                · show Below w.heap.size w _
                  exact (by repeat (first | with_reducible exact HBw.out | with_reducible refine Below.drew ?_ | with_reducible refine below_drewN ?_ _ | with_reducible refine Below.setCell ?_ (by first | omega | (simp; omega)) _))
              case measure => simp [intOf]; omega
            · as_aux_lemma =>
              have ew : kx + 2 = wd := by rw [← HWE.out]; rfl
              subst ew
              have hN := num_any d kx 2 w4 hdm (by omega) (by omega) (by omega) (by omega)
              have HN : Hid (Calls _ _ _ w4 _) := hN
              have en : kx + 2 - kx = 2 := by omega
              clear hN
              go_wp2_with fail
              (try rw [en])
              refine HN.out.mono ?_
              rintro e w5 ⟨rfl, hw5⟩
              obtain rfl : w4 = w5 := hw5.symm
              go_wp2_with fail
              go_roundw
              case rel =>
                have hst := HSt.out (by decide)
                have hov : a.over ⟨2, r, t, f, kx⟩ = (0 : Int) := by simp [St.over, Ins.branch]
                rw [hov] at hst
                refine ⟨_, c + 1, _, by go_num, by simp, hst, HOkd.out, ?_, ?_, by omega, by omega⟩
                · exact HPut.out _ rfl
                · show Below w.heap.size w _
                  exact (by repeat (first | with_reducible exact HBw.out | with_reducible refine Below.drew ?_ | with_reducible refine below_drewN ?_ _ | with_reducible refine Below.setCell ?_ (by first | omega | (simp; omega)) _))
              case measure => simp [intOf]; omega
            · as_aux_lemma =>
              have ew : kx + 4 = wd := by rw [← HWE.out]; rfl
              subst ew
              have hN := num_any d kx 4 w4 hdm (by omega) (by omega) (by omega) (by omega)
              have HN : Hid (Calls _ _ _ w4 _) := hN
              have en : kx + 4 - kx = 4 := by omega
              clear hN
              go_wp2_with fail
              (try rw [en])
              refine HN.out.mono ?_
              rintro e w5 ⟨rfl, hw5⟩
              obtain rfl : w4 = w5 := hw5.symm
              go_wp2_with fail
              go_roundw
              case rel =>
                have hst := HSt.out (by decide)
                have hov : a.over ⟨3, r, t, f, kx⟩ = (0 : Int) := by simp [St.over, Ins.branch]
                rw [hov] at hst
                refine ⟨_, c + 1, _, by go_num, by simp, hst, HOkd.out, ?_, ?_, by omega, by omega⟩
                · exact HPut.out _ rfl
                · show Below w.heap.size w _
                  exact (by repeat (first | with_reducible exact HBw.out | with_reducible refine Below.drew ?_ | with_reducible refine below_drewN ?_ _ | with_reducible refine Below.setCell ?_ (by first | omega | (simp; omega)) _))
              case measure => simp [intOf]; omega
            · as_aux_lemma =>
              have hk2 : kx < 2 := by
                have := HKK.out
                unfold Ins.fits at this
                simp at this
                omega
              have hk3 : kx = 0 ∨ kx = 1 := by omega
              have wq0 : IntKind.i64.wrap q.1 = q.1 := by rw [IntKind.wrap_i64]; omega
              have wq1 : IntKind.i64.wrap q.2 = q.2 := by rw [IntKind.wrap_i64]; omega
              have nRM : w2.heap.size ≠ w.heap.size := by omega
              rcases hk3 with rfl | rfl
              · go_upto_region 28 with fail
                go_region
                all_goals
                  go_wp2_with fail
                  go_roundw
                  case rel =>
                    have hst := HSt.out (by decide)
                    have hov : a.over ⟨4, r, t, f, 0⟩ = (0 : Int) := by simp [St.over, Ins.branch]
                    rw [hov] at hst
                    refine ⟨_, c + 1, _, by go_num, by simp, hst, HOkd.out, ?_, ?_, by omega, by omega⟩
                    · first | exact HPut.out _ rfl | exact (HPut.out _ rfl).drew
                    · show Below w.heap.size w _
                      exact (by repeat (first | with_reducible exact HBw.out | with_reducible refine Below.drew ?_ | with_reducible refine below_drewN ?_ _ | with_reducible refine Below.setCell ?_ (by first | omega | (simp; omega)) _))
                  case measure => simp [intOf]; omega
              · go_upto_region 28 with fail
                go_region
                all_goals
                  go_wp2_with fail
                  go_roundw
                  case rel =>
                    have hst := HSt.out (by decide)
                    have hov : a.over ⟨4, r, t, f, 1⟩ = (0 : Int) := by simp [St.over, Ins.branch]
                    rw [hov] at hst
                    refine ⟨_, c + 1, _, by go_num, by simp, hst, HOkd.out, ?_, ?_, by omega, by omega⟩
                    · first | exact HPut.out _ rfl | exact (HPut.out _ rfl).drew
                    · show Below w.heap.size w _
                      exact (by repeat (first | with_reducible exact HBw.out | with_reducible refine Below.drew ?_ | with_reducible refine below_drewN ?_ _ | with_reducible refine Below.setCell ?_ (by first | omega | (simp; omega)) _))
                  case measure => simp [intOf]; omega
            · as_aux_lemma =>
              go_wp2_with fail
              go_roundw
              case rel =>
                have hst := HSt.out (by decide)
                have hov : a.over ⟨5, r, t, f, kx⟩ = (0 : Int) := by simp [St.over, Ins.branch]
                rw [hov] at hst
                refine ⟨_, c + 1, _, by go_num, by simp, hst, HOkd.out, ?_, ?_, by omega, by omega⟩
                · exact HPut.out _ rfl
                · show Below w.heap.size w _
                  exact (by repeat (first | with_reducible exact HBw.out | with_reducible refine Below.drew ?_ | with_reducible refine below_drewN ?_ _ | with_reducible refine Below.setCell ?_ (by first | omega | (simp; omega)) _))
              case measure => simp [intOf]; omega
            · as_aux_lemma =>
              have hand := i64_and32 rv kx (by omega) (by omega) (by omega) (by omega)
              go_upto_region 32 with fail
              go_region
              all_goals
                go_wp2_with fail
                go_roundw
                case rel =>
                  have hst := HSt.out (by decide)
                  have hov : a.over ⟨6, r, t, f, kx⟩ = (0 : Int) := by simp [St.over, Ins.branch]
                  rw [hov] at hst
                  refine ⟨_, c + 1, _, by go_num, by simp, hst, HOkd.out, ?_, ?_, by omega, by omega⟩
                  · first | exact (HTu.out _ (by rw [← HRV.out]; rfl)).drew | exact HTu.out _ (by rw [← HRV.out]; rfl)
                  · show Below w.heap.size w _
                    exact (by repeat (first | with_reducible exact HBw.out | with_reducible refine Below.drew ?_ | with_reducible refine below_drewN ?_ _ | with_reducible refine Below.setCell ?_ (by first | omega | (simp; omega)) _))
                case measure => simp [intOf]; omega
            · as_aux_lemma =>
              have hk32 : kx < 32 := by
                have := HKK.out
                unfold Ins.fits at this
                simp at this
                omega
              go_upto_region 34 with fail
              go_region
              all_goals
                go_wp2_with fail
                go_roundw
                case rel =>
                  have hst := HSt.out (by decide)
                  have hov : a.over ⟨7, r, t, f, kx⟩ = (0 : Int) := by simp [St.over, Ins.branch]
                  rw [hov] at hst
                  refine ⟨_, c + 1, _, by go_num, by simp, hst, HOkd.out, ?_, ?_, by omega, by omega⟩
                  · first | exact (HTu.out _ (by rw [← HRV.out]; rfl)).drew | exact HTu.out _ (by rw [← HRV.out]; rfl)
                  · show Below w.heap.size w _
                    exact (by repeat (first | with_reducible exact HBw.out | with_reducible refine Below.drew ?_ | with_reducible refine below_drewN ?_ _ | with_reducible refine Below.setCell ?_ (by first | omega | (simp; omega)) _))
                case measure => simp [intOf]; omega
            · as_aux_lemma =>
              obtain ⟨tn, rfl⟩ := Int.eq_ofNat_of_zero_le bt.1
              obtain ⟨fn, rfl⟩ := Int.eq_ofNat_of_zero_le bf.1
              have hgo : a.goes ⟨8, r, tn, fn, kx⟩ = (rv == kx) := by
                have := HRV.out
                unfold St.goes
                rw [this]
                simp
              cases hgb : (rv == kx)
              · rw [hgb] at hgo
                go_upto_region 36 with fail
                go_quiet (fail)
                go_wp2_with fail
                go_roundw
                case rel =>
                  have hst := HSt.out (by decide)
                  have hov : a.over ⟨8, r, tn, fn, kx⟩ = (fn : Int) := by simp [St.over, Ins.branch, hgo]
                  rw [hov] at hst
                  refine ⟨_, c + 1, _, by go_num, by first | (simp; done) | (simp; go_num) | go_num, hst, HOkd.out, ?_, ?_, by omega, by omega⟩
                  · have hdo : a.does d q ⟨8, r, tn, fn, kx⟩ = a := rfl
                    rw [hdo]
                    exact HM4.out.drewN _
                  · show Below w.heap.size w _
                    exact (by repeat (first | with_reducible exact HBw.out | with_reducible refine Below.drew ?_ | with_reducible refine below_drewN ?_ _ | with_reducible refine Below.setCell ?_ (by first | omega | (simp; omega)) _))
                case measure => simp [intOf]; omega
              · rw [hgb] at hgo
                go_upto_region 36 with fail
                go_quiet (fail)
                go_wp2_with fail
                go_roundw
                case rel =>
                  have hst := HSt.out (by decide)
                  have hov : a.over ⟨8, r, tn, fn, kx⟩ = (tn : Int) := by simp [St.over, Ins.branch, hgo]
                  rw [hov] at hst
                  refine ⟨_, c + 1, _, by go_num, by first | (simp; done) | (simp; go_num) | go_num, hst, HOkd.out, ?_, ?_, by omega, by omega⟩
                  · have hdo : a.does d q ⟨8, r, tn, fn, kx⟩ = a := rfl
                    rw [hdo]
                    exact HM4.out.drewN _
                  · show Below w.heap.size w _
                    exact (by repeat (first | with_reducible exact HBw.out | with_reducible refine Below.drew ?_ | with_reducible refine below_drewN ?_ _ | with_reducible refine Below.setCell ?_ (by first | omega | (simp; omega)) _))
                case measure => simp [intOf]; omega
            · as_aux_lemma =>
              obtain ⟨tn, rfl⟩ := Int.eq_ofNat_of_zero_le bt.1
              obtain ⟨fn, rfl⟩ := Int.eq_ofNat_of_zero_le bf.1
              have hgo : a.goes ⟨9, r, tn, fn, kx⟩ = (decide (kx ≤ rv)) := by
                have := HRV.out
                unfold St.goes
                rw [this]
                simp
              cases hgb : (decide (kx ≤ rv))
              · rw [hgb] at hgo
                go_upto_region 38 with fail
                go_quiet (fail)
                go_wp2_with fail
                go_roundw
                case rel =>
                  have hst := HSt.out (by decide)
                  have hov : a.over ⟨9, r, tn, fn, kx⟩ = (fn : Int) := by simp [St.over, Ins.branch, hgo]
                  rw [hov] at hst
                  refine ⟨_, c + 1, _, by go_num, by first | (simp; done) | (simp; go_num) | go_num, hst, HOkd.out, ?_, ?_, by omega, by omega⟩
                  · have hdo : a.does d q ⟨9, r, tn, fn, kx⟩ = a := rfl
                    rw [hdo]
                    exact HM4.out.drewN _
                  · show Below w.heap.size w _
                    exact (by repeat (first | with_reducible exact HBw.out | with_reducible refine Below.drew ?_ | with_reducible refine below_drewN ?_ _ | with_reducible refine Below.setCell ?_ (by first | omega | (simp; omega)) _))
                case measure => simp [intOf]; omega
              · rw [hgb] at hgo
                go_upto_region 38 with fail
                go_quiet (fail)
                go_wp2_with fail
                go_roundw
                case rel =>
                  have hst := HSt.out (by decide)
                  have hov : a.over ⟨9, r, tn, fn, kx⟩ = (tn : Int) := by simp [St.over, Ins.branch, hgo]
                  rw [hov] at hst
                  refine ⟨_, c + 1, _, by go_num, by first | (simp; done) | (simp; go_num) | go_num, hst, HOkd.out, ?_, ?_, by omega, by omega⟩
                  · have hdo : a.does d q ⟨9, r, tn, fn, kx⟩ = a := rfl
                    rw [hdo]
                    exact HM4.out.drewN _
                  · show Below w.heap.size w _
                    exact (by repeat (first | with_reducible exact HBw.out | with_reducible refine Below.drew ?_ | with_reducible refine below_drewN ?_ _ | with_reducible refine Below.setCell ?_ (by first | omega | (simp; omega)) _))
                case measure => simp [intOf]; omega
            · as_aux_lemma =>
              obtain ⟨tn, rfl⟩ := Int.eq_ofNat_of_zero_le bt.1
              obtain ⟨fn, rfl⟩ := Int.eq_ofNat_of_zero_le bf.1
              have hand := i64_and32 rv kx (by omega) (by omega) (by omega) (by omega)
              have hgo : a.goes ⟨10, r, tn, fn, kx⟩ = (((rv.toNat &&& kx.toNat : Nat) : Int) != 0) := by
                have := HRV.out
                unfold St.goes
                rw [this]
                simp
                generalize rv.toNat &&& kx.toNat = zz
                by_cases hz : zz = 0
                · subst hz; rfl
                · have h1 : (zz == 0) = false := by simpa using hz
                  have h2 : ((zz : Int) != 0) = true := by simp; omega
                  rw [h1, h2]; rfl
              cases hgb : (((rv.toNat &&& kx.toNat : Nat) : Int) != 0)
              · rw [hgb] at hgo
                go_upto_region 40 with fail
                go_quiet (fail)
                go_wp2_with fail
                go_roundw
                case rel =>
                  have hst := HSt.out (by decide)
                  have hov : a.over ⟨10, r, tn, fn, kx⟩ = (fn : Int) := by simp [St.over, Ins.branch, hgo]
                  rw [hov] at hst
                  refine ⟨_, c + 1, _, by go_num, by first | (simp; done) | (simp; go_num) | go_num, hst, HOkd.out, ?_, ?_, by omega, by omega⟩
                  · have hdo : a.does d q ⟨10, r, tn, fn, kx⟩ = a := rfl
                    rw [hdo]
                    exact HM4.out.drewN _
                  · show Below w.heap.size w _
                    exact (by repeat (first | with_reducible exact HBw.out | with_reducible refine Below.drew ?_ | with_reducible refine below_drewN ?_ _ | with_reducible refine Below.setCell ?_ (by first | omega | (simp; omega)) _))
                case measure => simp [intOf]; omega
              · rw [hgb] at hgo
                go_upto_region 40 with fail
                go_quiet (fail)
                go_wp2_with fail
                go_roundw
                case rel =>
                  have hst := HSt.out (by decide)
                  have hov : a.over ⟨10, r, tn, fn, kx⟩ = (tn : Int) := by simp [St.over, Ins.branch, hgo]
                  rw [hov] at hst
                  refine ⟨_, c + 1, _, by go_num, by first | (simp; done) | (simp; go_num) | go_num, hst, HOkd.out, ?_, ?_, by omega, by omega⟩
                  · have hdo : a.does d q ⟨10, r, tn, fn, kx⟩ = a := rfl
                    rw [hdo]
                    exact HM4.out.drewN _
                  · show Below w.heap.size w _
                    exact (by repeat (first | with_reducible exact HBw.out | with_reducible refine Below.drew ?_ | with_reducible refine below_drewN ?_ _ | with_reducible refine Below.setCell ?_ (by first | omega | (simp; omega)) _))
                case measure => simp [intOf]; omega
            · as_aux_lemma =>
              obtain ⟨kn, rfl⟩ := Int.eq_ofNat_of_zero_le bk.1
              go_wp2_with fail
              go_roundw
              case rel =>
                have hst := HSt.out (by decide)
                have hov : a.over ⟨11, r, t, f, kn⟩ = (kn : Int) := by simp [St.over]
                rw [hov] at hst
                refine ⟨_, c + 1, _, by go_num, by first | (simp; done) | (simp; go_num) | go_num, hst, HOkd.out, ?_, ?_, by omega, by omega⟩
                · exact HM4.out
                · show Below w.heap.size w _
                  exact (by repeat (first | with_reducible exact HBw.out | with_reducible refine Below.drew ?_ | with_reducible refine below_drewN ?_ _ | with_reducible refine Below.setCell ?_ (by first | omega | (simp; omega)) _))
              case measure => simp [intOf]; omega
        · have HRes : Hid (v = 0 ∧ z = c + 1 ∧ k = 21) := by
            have htr : a.trap d x = 21 := by
              unfold St.trap
              rw [HHS.out, HBAD.out, if_pos rfl]
            have hop : x.op ≠ 0 := by
              intro e
              have : x.uses = false := by unfold Ins.uses Ins.branch; rw [e]; rfl
              have h2 := HBAD.out
              rw [this, Bool.false_and] at h2; cases h2
            have hg := HGo.out
            rcases hg.out with ⟨h, rfl, rfl, rfl⟩ | ⟨h, ho, rfl, rfl, rfl⟩ | ⟨h, ho, ht, rfl, rfl, rfl⟩ | ⟨h, ho, ht, hg⟩
            · omega
            · rw [HX.out] at ho; exact absurd ho hop
            · exact ⟨rfl, rfl, by rw [HX.out, htr]⟩
            · rw [HX.out, htr] at ht; exact absurd ht (by decide)
          go_wp2_with fail
          go_ret3
          obtain ⟨rfl, rfl, rfl⟩ := HRes.out
          exact ⟨rfl, HB.out.alloc HB.out.size _⟩
    · have HRes : Hid (v = 0 ∧ z = c ∧ k = 23) := by
        have hg := HGo.out
        rcases hg.out with ⟨h, rfl, rfl, rfl⟩ | ⟨h, ho, rfl, rfl, rfl⟩ | ⟨h, ho, ht, rfl, rfl, rfl⟩ | ⟨h, ho, ht, hg⟩
        · exact ⟨rfl, rfl, rfl⟩
        · omega
        · omega
        · omega
      go_wp2_with fail
      go_ret3
      obtain ⟨rfl, rfl, rfl⟩ := HRes.out
      exact ⟨rfl, HB.out⟩
end Go.Proofs.YtclpnafiiobfhaaGreatDoor

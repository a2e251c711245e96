import Derived.Test.YtclpnafiiobfhabGreatDoorMDo2
import Derived.Test.YtclpnafiiobfhabGreatDoorMTraps
namespace Go.Proofs.YtclpnafiiobfhabGreatDoor
open Go.RowKit
set_option linter.unusedVariables false
set_option linter.unusedSimpArgs false

/-- the frame lies apart from the machine -/
structure Dat (w : World) (m db doff dc : Nat) (d : ByteArray) : Prop where
  row : Row w db doff d
  lt : db < w.heap.size
  ne : db ≠ m
  cap : d.size ≤ dc
  most : dc ≤ maxLen
  size : d.size ≤ 4294967295
theorem Dat.tch {w w' : World} {m db doff dc : Nat} {d : ByteArray} (h : Dat w m db doff dc d) (ht : Tch m w w') : Dat w' m db doff dc d :=
  ⟨fun i hi => (ht.cell (p := ⟨db, doff + i, none⟩) h.lt h.ne).trans (h.row i hi), Nat.lt_of_lt_of_le h.lt ht.size, h.ne, h.cap, h.most, h.size⟩

theorem do_any (x : Ins) (m db doff dc : Nat) (d : ByteArray) (q : Int × Int) (a : St) (w : World) (hb : x.Bd) (hf : x.fits = true) (h0 : x.op ≠ 0) (ht : a.trap d x = 0) (ha : a.Ok) (hD : Dat w m db doff dc d) (hM : Mc w m (.slice (some ⟨db, doff, none⟩) d.size dc) q a) :
    Calls Tryz.prog 97 #[.pointer (some ⟨m, 0, none⟩), insV x] w fun e w' => e = .returned (.int .u32 (a.over x)) ∧ Mc w' m (.slice (some ⟨db, doff, none⟩) d.size dc) q (a.does d q x) ∧ Tch m w w' := by
  have bo := hb.op
  have br := hb.r
  have bt := hb.t
  have bf := hb.f
  have bk := hb.k
  have hcap := hD.cap
  have hd := hD.size
  have hf' := hf
  unfold Ins.fits at hf'
  simp only [Bool.and_eq_true, decide_eq_true_eq] at hf'
  obtain ⟨⟨⟨ho, hr⟩, _⟩, hk⟩ := hf'
  have hw : x.load = true → x.wide ≤ d.size := by
    intro hl
    have hu : x.uses = false := by
      unfold Ins.load at hl
      unfold Ins.uses Ins.branch
      have : x.op = 1 ∨ x.op = 2 ∨ x.op = 3 := by simpa [or_assoc] using hl
      rcases this with h | h | h <;> simp [h]
    unfold St.trap at ht
    rw [hu, Bool.false_and, if_neg (by decide)] at ht
    rcases Int.lt_or_le (d.size : Int) x.wide with g | g
    · rw [if_pos g] at ht; omega
    · exact g
  obtain ⟨op, r, t, f, k⟩ := x
  dsimp only at *
  obtain ⟨kn, rfl⟩ := Int.eq_ofNat_of_zero_le bk.1
  have hmx := hD.most
  have hc : op = 1 ∨ op = 2 ∨ op = 3 ∨ op = 4 ∨ op = 5 ∨ op = 6 ∨ op = 7 ∨ op = 8 ∨ op = 9 ∨ op = 10 ∨ op = 11 := by omega
  rcases hc with rfl | rfl | rfl | rfl | rfl | rfl | rfl | rfl | rfl | rfl | rfl
  · have := hw rfl
    unfold Ins.wide at this
    exact do_1 r t f kn m db doff dc d q a w ⟨br.1, hr⟩ bt bf bk ha hM hD.row hD.lt hD.ne (by simpa using this) hcap hmx
  · have := hw rfl
    unfold Ins.wide at this
    exact do_2 r t f kn m db doff dc d q a w ⟨br.1, hr⟩ bt bf bk ha hM hD.row hD.lt hD.ne (by simpa using this) hcap hmx
  · have := hw rfl
    unfold Ins.wide at this
    exact do_3 r t f kn m db doff dc d q a w ⟨br.1, hr⟩ bt bf bk ha hM hD.row hD.lt hD.ne (by simpa using this) hcap hmx
  · have hk2 : (kn : Int) < 2 := by simpa using hk
    have hk3 : kn = 0 ∨ kn = 1 := by omega
    rcases hk3 with rfl | rfl
    · exact do_4_0 r t f m _ d.size dc q a w ⟨br.1, hr⟩ ha hM
    · exact do_4_1 r t f m _ d.size dc q a w ⟨br.1, hr⟩ ha hM
  · exact do_5 r t f kn m _ d.size dc q a w ⟨br.1, hr⟩ bk ha hM hd
  · exact do_6 r t f kn m _ d.size dc q a w ⟨br.1, hr⟩ bk ha hM
  · exact do_7 r t f kn m _ d.size dc q a w ⟨br.1, hr⟩ bk ha hM (by simpa using hk)
  · exact do_8 r t f kn m _ d.size dc q a w ⟨br.1, hr⟩ bt bf bk ha hM
  · exact do_9 r t f kn m _ d.size dc q a w ⟨br.1, hr⟩ bt bf bk ha hM
  · exact do_10 r t f kn m _ d.size dc q a w ⟨br.1, hr⟩ bt bf bk ha hM
  · exact do_11 r t f kn m _ d.size dc q a w ⟨br.1, hr⟩ bk ha hM
end Go.Proofs.YtclpnafiiobfhabGreatDoor

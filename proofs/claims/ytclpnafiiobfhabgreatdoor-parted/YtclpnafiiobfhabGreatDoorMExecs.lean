import Derived.Test.YtclpnafiiobfhabGreatDoorMExec
namespace Go.Proofs.YtclpnafiiobfhabGreatDoor
open Go.RowKit
set_option linter.unusedVariables false
set_option linter.unusedSimpArgs false

/-- what Exec answers -/
def Ran (s d : ByteArray) (q : Int × Int) (v : Int) (z : Nat) (k : Int) : Prop :=
  (∃ i, Torn s i ∧ v = 0 ∧ z = 0 ∧ k = 10) ∨ ∃ n, Formed s n ∧ Goes s n d q 0 0 st0 v z k
theorem ran_total (s d : ByteArray) (q : Int × Int) : ∃ v z k, Ran s d q v z k := by
  rcases torn_or s with ⟨i, h⟩ | ⟨n, h⟩
  · exact ⟨_, _, _, .inl ⟨i, h, rfl, rfl, rfl⟩⟩
  · obtain ⟨v, z, k, g⟩ := goes_total s n d q n 0 0 st0 (by omega)
    exact ⟨v, z, k, .inr ⟨n, h, g⟩⟩

theorem exec_any (s d : ByteArray) (q : Int × Int) (v : Int) (z : Nat) (k : Int) (b off cap db doff dc : Nat) (w : World) (hL : Laid w) (h : Ran s d q v z k)
    (hc : s.size ≤ cap) (hm : cap ≤ maxLen) (hb : b < w.heap.size) (hr : Row w b off s)
    (hd : Row w db doff d) (hdb : db < w.heap.size) (hdc : d.size ≤ dc) (hdm : dc ≤ maxLen) (hdz : d.size ≤ 4294967295) (q0 : 0 ≤ q.1 ∧ q.1 ≤ 4294967295) (q1 : 0 ≤ q.2 ∧ q.2 ≤ 4294967295) :
    Calls Tryz.prog 62 #[.slice (some ⟨b, off, none⟩) s.size cap, .slice (some ⟨db, doff, none⟩) d.size dc, .agg #[.int .u32 q.1, .int .u32 q.2]] w fun e w' => e = .returned (.tuple #[.int .u8 v, .int .i64 z, trapV k]) ∧ Below w.heap.size w w' := by
  have row : ∀ w', Below w.heap.size w w' → Row w' b off s := fun w' h i hi => (h.cell (p := ⟨b, off + i, none⟩) hb).trans (hr i hi)
  rcases h with ⟨i, ht, rfl, rfl, rfl⟩ | ⟨n, hF, hG⟩
  · refine exec_torn _ _ q i w hL (fun w' hw => ?_)
    rcases ht with ⟨hz, rfl⟩ | ⟨n, hz, hi, h1, h2⟩
    · refine (read_size s (some ⟨b, off, none⟩) cap w' (Nat.le_trans hc hm) hz).mono ?_
      rintro e w2 ⟨rfl, rfl⟩
      refine ⟨_, rfl, (Below.refl _ _).alloc (Nat.le_refl _) _, Nat.le_refl _, by simp, ?_, ?_⟩
      · rw [World.cell?_alloc_at _ _ _ _ rfl]; rfl
      · rw [World.cell?_alloc_at _ _ _ _ rfl]; rfl
    · exact read_ins s n i b off cap w' hc hm (Nat.lt_of_lt_of_le hb hw.size) (row w' hw) hz hi h1 h2
  · exact exec_run s n _ db doff dc d q w hF v z k hG hd hdb hdc hdm hdz q0 q1 (fun w' hw => read_fine s n b off cap w' hc hm (Nat.lt_of_lt_of_le hb hw.size) (row w' hw) hF)

set_option maxHeartbeats 400000 in
theorem fwExec_any (p dsl : Value) (q : Int × Int) (v : Int) (z : Nat) (k : Int) (w : World) (h : ∀ w', Below w.heap.size w w' → Calls Tryz.prog 62 #[p, dsl, .agg #[.int .u32 q.1, .int .u32 q.2]] w' fun e w'' => e = .returned (.tuple #[.int .u8 v, .int .i64 z, trapV k]) ∧ Below w'.heap.size w' w'') :
    Calls Tryz.prog 38 #[p, dsl, .agg #[.int .u32 q.1, .int .u32 q.2]] w fun e w' => e = .returned (.tuple #[.int .u8 v, .int .i64 z, trapV k]) ∧ Below w.heap.size w w' := by
  have H : Hid (∀ w', Below w.heap.size w w' → Calls _ _ _ w' _) := h
  clear h
  go_enter Tryz.func38, Tryz.ntmps38
  go_wp2_with fail
  refine (H.out _ ((Below.refl _ _).alloc (Nat.le_refl _) _)).mono ?_
  rintro e w1 ⟨rfl, hb⟩
  have HB : Hid (Below w.heap.size w w1) := ((Below.refl _ _).alloc (Nat.le_refl _) _).trans (hb.mono (by simp))
  clear hb H
  go_wp2_with fail
  go_ret3
  exact ⟨rfl, HB.out⟩

set_option maxHeartbeats 400000 in
theorem plExec_any (s d : ByteArray) (q : Int × Int) (v : Int) (z : Nat) (k : Int) (b off cap db doff dc : Nat) (w : World) (hL : Laid w) (h : Ran s d q v z k)
    (hc : s.size ≤ cap) (hm : cap ≤ maxLen) (hb : b < w.heap.size) (hr : Row w b off s)
    (hd : Row w db doff d) (hdb : db < w.heap.size) (hdc : d.size ≤ dc) (hdm : dc ≤ maxLen) (hdz : d.size ≤ 4294967295) (q0 : 0 ≤ q.1 ∧ q.1 ≤ 4294967295) (q1 : 0 ≤ q.2 ∧ q.2 ≤ 4294967295) :
    Calls Tryz.prog 25 #[.slice (some ⟨b, off, none⟩) s.size cap, .slice (some ⟨db, doff, none⟩) d.size dc, .agg #[.int .u32 q.1, .int .u32 q.2]] w fun e w' => e = .returned (.tuple #[.int .u8 v, .int .i64 z, .int .i64 k]) ∧ Below w.heap.size w w' := by
  have low : ∀ (B lo : Nat) (t : ByteArray) (w' : World), Below w.heap.size w w' → B < w.heap.size → Row w B lo t → Row w' B lo t := fun B lo t w' h hB g i hi => (h.cell (p := ⟨B, lo + i, none⟩) hB).trans (g i hi)
  have hE : ∀ w', Below w.heap.size w w' → Calls Tryz.prog 38 #[.slice (some ⟨b, off, none⟩) s.size cap, .slice (some ⟨db, doff, none⟩) d.size dc, .agg #[.int .u32 q.1, .int .u32 q.2]] w' fun e w'' => e = .returned (.tuple #[.int .u8 v, .int .i64 z, trapV k]) ∧ Below w'.heap.size w' w'' := fun w' hw =>
    fwExec_any _ _ q v z k w' (fun w2 hw2 => by
      have h2 := hw.trans (hw2.mono hw.size)
      exact exec_any s d q v z k b off cap db doff dc w2 (hL.below h2) h hc hm (Nat.lt_of_lt_of_le hb h2.size) (low _ _ _ _ h2 hb hr) (low _ _ _ _ h2 hdb hd) (Nat.lt_of_lt_of_le hdb h2.size) hdc hdm hdz q0 q1)
  have H : Hid (∀ w', Below w.heap.size w w' → Calls _ _ _ w' _) := hE
  have HL : Hid (Laid w) := hL
  clear hE low hr hd h hL
  go_enter Tryz.func25, Tryz.ntmps25
  go_wp2_with fail
  refine (H.out _ ((Below.refl _ _).alloc (Nat.le_refl _) _)).mono ?_
  rintro e w1 ⟨rfl, hb1⟩
  have HB1 : Hid (Below w.heap.size w w1) := ((Below.refl _ _).alloc (Nat.le_refl _) _).trans (hb1.mono (by simp))
  clear hb1 H
  by_cases hk : k = 0
  · subst hk
    rw [trapV_0]
    go_wp2_with fail
    refine (told_nil _).mono ?_
    rintro e w2 ⟨rfl, hb2⟩
    go_wp2_with fail
    go_ret3
    exact ⟨rfl, HB1.out.trans (hb2.mono HB1.out.size)⟩
  · rw [trapV_ne hk]
    clear hk
    go_wp2_with fail
    refine (told_kind k _ (HL.out.below HB1.out)).mono ?_
    rintro e w2 ⟨rfl, hb2⟩
    go_wp2_with fail
    go_ret3
    exact ⟨rfl, HB1.out.trans (hb2.mono HB1.out.size)⟩
end Go.Proofs.YtclpnafiiobfhabGreatDoor

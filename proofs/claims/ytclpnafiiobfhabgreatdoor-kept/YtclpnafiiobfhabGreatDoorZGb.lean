import Derived.Test.YtclpnafiiobfhabGreatDoorZGa
import Derived.Deep.RegionHeld3
namespace Go.Proofs.YtclpnafiiobfhabGreatDoor
open Go.RowKit
set_option linter.unusedVariables false
set_option linter.unusedSimpArgs false

/-- an end in a block of its own -/
structure EndAt (W : World) (g : Nat) (a s : Int) : Prop where
  c0 : W.cell? ⟨g, 0, none⟩ = some (.int .u32 a)
  c1 : W.cell? ⟨g, 1, none⟩ = some (.int .u16 s)
  f : ∀ i, W.frozen? ⟨g, i, none⟩ = false
  lt : g < W.heap.size
theorem EndAt.below {w w' : World} {g B : Nat} {a s : Int} (h : EndAt w g a s) (hb : Below B w w') (hg : g < B) : EndAt w' g a s :=
  ⟨(hb.cell (p := ⟨g, 0, none⟩) hg).trans h.c0, (hb.cell (p := ⟨g, 1, none⟩) hg).trans h.c1, fun i => (hb.frozen (p := ⟨g, i, none⟩) hg).trans (h.f i), Nat.lt_of_lt_of_le h.lt hb.size⟩
/-- what keyOf holds: its header's box, its answer's block, two ends -/
structure KeyAt (w W : World) (g3 g4 : Nat) (a s b d p : Int) : Prop where
  e3 : EndAt W g3 a s
  e4 : EndAt W g4 b d
  p : W.cell? ⟨w.heap.size, 2, none⟩ = some (.int .u8 p)
  k : ∀ i, i < 5 → ∃ v, W.cell? ⟨w.heap.size + 1, i, none⟩ = some v
  kf : ∀ i, W.frozen? ⟨w.heap.size + 1, i, none⟩ = false
  b : Below w.heap.size w W
  sz : w.heap.size + 2 ≤ W.heap.size
theorem KeyAt.below {w W W' : World} {g3 g4 : Nat} {a s b d p : Int} (h : KeyAt w W g3 g4 a s b d p) (hb : Below W.heap.size W W') : KeyAt w W' g3 g4 a s b d p :=
  ⟨h.e3.below hb h.e3.lt, h.e4.below hb h.e4.lt, (hb.cell (p := ⟨w.heap.size, 2, none⟩) (by show w.heap.size < _; have := h.sz; omega)).trans h.p, fun i hi => by
    obtain ⟨v, hv⟩ := h.k i hi
    exact ⟨v, (hb.cell (p := ⟨w.heap.size + 1, i, none⟩) (by show w.heap.size + 1 < _; have := h.sz; omega)).trans hv⟩, fun i => (hb.frozen (p := ⟨w.heap.size + 1, i, none⟩) (by show w.heap.size + 1 < _; have := h.sz; omega)).trans (h.kf i), h.b.trans (hb.mono h.b.size), Nat.le_trans h.sz hb.size⟩
set_option maxHeartbeats 3200000 in
theorem keyOf_any (h : Hd) (w : World) :
    Calls Tryz.prog 67 #[.agg h.cells] w fun e w' => e = .returned (.agg h.key.cells) ∧ Below w.heap.size w w' := by
  obtain ⟨a, b, p, s, d, f⟩ := h
  have HK : Hid ((Hd.mk a b p s d f).key = if lessE b d a s = true then ⟨b, d, a, s, p⟩ else ⟨a, s, b, d, p⟩) := rfl
  generalize (Hd.mk a b p s d f).key = ky at HK
  dsimp only [Hd.cells]
  go_enter Tryz.func67, Tryz.ntmps67
  go_upto_region 1 with fail
  go_cut [3, 4] from 5 to 14 (fun x y w' => ∃ g3 g4, x = .pointer (some ⟨g3, 0, none⟩) ∧ y = .pointer (some ⟨g4, 0, none⟩) ∧ g3 ≠ g4 ∧ w.heap.size + 2 ≤ g3 ∧ w.heap.size + 2 ≤ g4 ∧ KeyAt w w' g3 g4 a s b d p)
  case first =>
    go_region
    all_goals
      go_wp2_with fail
      go_meet
      refine ⟨_, _, rfl, rfl, by omega, by omega, by omega, ⟨by go_simp, by go_simp, fun i => by go_simp, by simp⟩, ⟨by go_simp, by go_simp, fun i => by go_simp, by simp⟩, by go_simp, fun i hi => ?_, fun i => by go_simp, ?_, by simp⟩
      · have : i = 0 ∨ i = 1 ∨ i = 2 ∨ i = 3 ∨ i = 4 := by omega
        rcases this with rfl | rfl | rfl | rfl | rfl
        · exact ⟨.int .u32 0, by go_simp⟩
        · exact ⟨.int .u16 0, by go_simp⟩
        · exact ⟨.int .u32 0, by go_simp⟩
        · exact ⟨.int .u16 0, by go_simp⟩
        · exact ⟨.int .u8 0, by go_simp⟩
      · repeat (first | with_reducible exact Below.refl _ _ | with_reducible refine Below.drew ?_ | with_reducible refine Below.alloc ?_ (by first | (simp; done) | (simp; omega)) _)
  obtain ⟨g3, g4, rfl, rfl, hne, hl3, hl4, hk⟩ := hcut
  have HKA : Hid (KeyAt w wc g3 g4 a s b d p) := hk
  have x0 := hk.e3.c0
  have x1 := hk.e3.c1
  have y0 := hk.e4.c0
  have y1 := hk.e4.c1
  have HLs : Hid (Calls _ _ _ wc _) := less_any b d a s wc
  clear hk
  have n3 : g3 ≠ w.heap.size + 1 := by omega
  have n4 : g4 ≠ w.heap.size + 1 := by omega
  have n5 : g3 ≠ w.heap.size := by omega
  have n6 : g4 ≠ w.heap.size := by omega
  obtain ⟨q, hq⟩ : ∃ q, lessE b d a s = q := ⟨_, rfl⟩
  rw [hq] at HLs HK
  clear hq
  cases q with
  | true =>
    go_wp2_with (go_at_call 102; refine HLs.out.mono ?_; rintro e w2 ⟨rfl, hb2⟩; have HKB : Hid (KeyAt w w2 g3 g4 a s b d p) := HKA.out.below hb2; clear hb2; have u0 := HKB.out.e3.c0; have u1 := HKB.out.e3.c1; have v0 := HKB.out.e4.c0; have v1 := HKB.out.e4.c1; have pf := HKB.out.p; have fu0 := HKB.out.e3.f 0; have fu1 := HKB.out.e3.f 1; have fv0 := HKB.out.e4.f 0; have fv1 := HKB.out.e4.f 1; obtain ⟨r0, hr0⟩ := HKB.out.k 0 (by decide); obtain ⟨r1, hr1⟩ := HKB.out.k 1 (by decide); obtain ⟨r2, hr2⟩ := HKB.out.k 2 (by decide); obtain ⟨r3, hr3⟩ := HKB.out.k 3 (by decide); obtain ⟨r4, hr4⟩ := HKB.out.k 4 (by decide); have fr0 := HKB.out.kf 0; have fr1 := HKB.out.kf 1; have fr2 := HKB.out.kf 2; have fr3 := HKB.out.kf 3; have fr4 := HKB.out.kf 4)
    refine bodyPost_ret (v := .agg #[.int .u32 b, .int .u16 d, .int .u32 a, .int .u16 s, .int .u8 p]) (by simp only [results, Tryz.results67]; go_simp) rfl ⟨by rw [HK.out]; rfl, ?_⟩
    repeat (first | with_reducible exact HKB.out.b | with_reducible refine Below.setCell ?_ (by first | omega | (simp; done) | (simp; omega)) _ | with_reducible refine Below.alloc ?_ (by first | omega | (simp; done) | (simp; omega)) _)
  | false =>
    go_wp2_with (go_at_call 102; refine HLs.out.mono ?_; rintro e w2 ⟨rfl, hb2⟩; have HKB : Hid (KeyAt w w2 g3 g4 a s b d p) := HKA.out.below hb2; clear hb2; have u0 := HKB.out.e3.c0; have u1 := HKB.out.e3.c1; have v0 := HKB.out.e4.c0; have v1 := HKB.out.e4.c1; have pf := HKB.out.p; have fu0 := HKB.out.e3.f 0; have fu1 := HKB.out.e3.f 1; have fv0 := HKB.out.e4.f 0; have fv1 := HKB.out.e4.f 1; obtain ⟨r0, hr0⟩ := HKB.out.k 0 (by decide); obtain ⟨r1, hr1⟩ := HKB.out.k 1 (by decide); obtain ⟨r2, hr2⟩ := HKB.out.k 2 (by decide); obtain ⟨r3, hr3⟩ := HKB.out.k 3 (by decide); obtain ⟨r4, hr4⟩ := HKB.out.k 4 (by decide); have fr0 := HKB.out.kf 0; have fr1 := HKB.out.kf 1; have fr2 := HKB.out.kf 2; have fr3 := HKB.out.kf 3; have fr4 := HKB.out.kf 4)
    refine bodyPost_ret (v := .agg #[.int .u32 a, .int .u16 s, .int .u32 b, .int .u16 d, .int .u8 p]) (by simp only [results, Tryz.results67]; go_simp) rfl ⟨by rw [HK.out]; rfl, ?_⟩
    repeat (first | with_reducible exact HKB.out.b | with_reducible refine Below.setCell ?_ (by first | omega | (simp; done) | (simp; omega)) _ | with_reducible refine Below.alloc ?_ (by first | omega | (simp; done) | (simp; omega)) _)
end Go.Proofs.YtclpnafiiobfhabGreatDoor
namespace Go.Proofs.YtclpnafiiobfhabGreatDoor
open Go.RowKit
set_option linter.unusedVariables false
set_option linter.unusedSimpArgs false

theorem end_eq (a s b d : Int) (w : World) : (binOp .eql 110 (.agg #[.int .u32 a, .int .u16 s]) (.agg #[.int .u32 b, .int .u16 d])).run Tryz.prog w = .ok (.bool (decide (a = b ∧ s = d))) w := by
  have u3 := Tryz.underlying25
  have u4 := Tryz.underlying26
  have hS : Tryz.prog.underlying 110 = some (.struct (Tryz.prog.fieldsOf 110)) := by kernel_rfl
  have hp : Tryz.prog.stoodInHeld 110 = false := by kernel_rfl
  rw [run_eql_struct, show (10000 : Nat) = 9999 + 1 from rfl, run_equalIn_agg w 9999 110 _ _ hS hp]
  simp only [Program.fieldsOf, Tryz.underlying110]
  go_simp
  by_cases h1 : a = b <;> by_cases h2 : s = d <;> simp [h1, h2]
theorem end_ne (a s b d : Int) (w : World) : (binOp .neq 110 (.agg #[.int .u32 a, .int .u16 s]) (.agg #[.int .u32 b, .int .u16 d])).run Tryz.prog w = .ok (.bool (!decide (a = b ∧ s = d))) w := by
  have u3 := Tryz.underlying25
  have u4 := Tryz.underlying26
  have hS : Tryz.prog.underlying 110 = some (.struct (Tryz.prog.fieldsOf 110)) := by kernel_rfl
  have hp : Tryz.prog.stoodInHeld 110 = false := by kernel_rfl
  rw [run_neq_struct, show (10000 : Nat) = 9999 + 1 from rfl, run_equalIn_agg w 9999 110 _ _ hS hp]
  simp only [Program.fieldsOf, Tryz.underlying110]
  go_simp
  by_cases h1 : a = b <;> by_cases h2 : s = d <;> simp [h1, h2]
theorem al1 {W : World} {p : Addr} {v : Value} (h : W.cell? p = some v) (a : Obj) : (W.alloc a).cell? p = some v := (World.cell?_alloc_lt _ _ _ (World.block_lt_of_cell? W p h)).trans h
theorem al3 {W : World} {p : Addr} {v : Value} (h : W.cell? p = some v) (a b c : Obj) : ((((W.alloc a).alloc b).alloc c).drew).cell? p = some v :=
  al1 (al1 (al1 h a) b) c
set_option maxHeartbeats 6400000 in
theorem isBack_any (x : Fl) (h : Hd) (w : World) :
    Calls Tryz.prog 103 #[.agg x.cells, .agg h.cells] w fun e w' => e = .returned (.bool (backF x h)) ∧ Below w.heap.size w w' := by
  have HE : Hid (backF x h = (decide (h.a = x.b ∧ h.s = x.d) && !decide (h.a = x.a ∧ h.s = x.s))) := rfl
  generalize backF x h = q at HE
  obtain ⟨a, b, p, s, d, f⟩ := h
  obtain ⟨a', b', p', s', d', rep, clo, u⟩ := x
  dsimp only at HE
  have e1 := end_eq a s b' d'
  have e2 := end_ne a s a' s'
  dsimp only [Hd.cells, Fl.cells]
  go_enter Tryz.func103, Tryz.ntmps103
  go_upto_region 1 with fail
  have HB0 : Hid (Below w.heap.size w ((w.alloc (.cells #[.int .u32 a', .int .u32 b', .int .u8 p', .int .u16 s', .int .u16 d', .bool rep, .bool clo, .int .u64 (u : Int)] 113)).alloc (.cells #[.int .u32 a, .int .u32 b, .int .u8 p, .int .u16 s, .int .u16 d, .int .u8 f] 28))) := ((Below.refl _ _).alloc (Nat.le_refl _) _).alloc (by simp) _
  have hz2 : ((w.alloc (.cells #[.int .u32 a', .int .u32 b', .int .u8 p', .int .u16 s', .int .u16 d', .bool rep, .bool clo, .int .u64 (u : Int)] 113)).alloc (.cells #[.int .u32 a, .int .u32 b, .int .u8 p, .int .u16 s, .int .u16 d, .int .u8 f] 28)).heap.size = w.heap.size + 2 := by simp
  have HK : Hid (∀ i x, (#[.int .u32 a', .int .u32 b', .int .u8 p', .int .u16 s', .int .u16 d', .bool rep, .bool clo, .int .u64 (u : Int)] : Array Value)[i]? = some x → ((w.alloc (.cells #[.int .u32 a', .int .u32 b', .int .u8 p', .int .u16 s', .int .u16 d', .bool rep, .bool clo, .int .u64 (u : Int)] 113)).alloc (.cells #[.int .u32 a, .int .u32 b, .int .u8 p, .int .u16 s, .int .u16 d, .int .u8 f] 28)).cell? ⟨w.heap.size, i, none⟩ = some x) := fun i x hx => by
    rw [World.cell?_alloc_lt _ _ _ (by simp), World.cell?_alloc_at _ _ _ _ rfl]; exact hx
  have HH : Hid (∀ i x, (#[.int .u32 a, .int .u32 b, .int .u8 p, .int .u16 s, .int .u16 d, .int .u8 f] : Array Value)[i]? = some x → ((w.alloc (.cells #[.int .u32 a', .int .u32 b', .int .u8 p', .int .u16 s', .int .u16 d', .bool rep, .bool clo, .int .u64 (u : Int)] 113)).alloc (.cells #[.int .u32 a, .int .u32 b, .int .u8 p, .int .u16 s, .int .u16 d, .int .u8 f] 28)).cell? ⟨w.heap.size + 1, i, none⟩ = some x) := fun i x hx => by
    rw [World.cell?_alloc_at _ _ _ _ (by simp)]; exact hx
  generalize (w.alloc (.cells #[.int .u32 a', .int .u32 b', .int .u8 p', .int .u16 s', .int .u16 d', .bool rep, .bool clo, .int .u64 (u : Int)] 113)).alloc (.cells #[.int .u32 a, .int .u32 b, .int .u8 p, .int .u16 s, .int .u16 d, .int .u8 f] 28) = W2 at HB0 hz2 HK HH ⊢
  have k0 := HK.out 0 _ rfl
  have k1 := HK.out 1 _ rfl
  have k3 := HK.out 3 _ rfl
  have k4 := HK.out 4 _ rfl
  have j0 := HH.out 0 _ rfl
  have j3 := HH.out 3 _ rfl
  have hlt0 : w.heap.size < W2.heap.size := by omega
  have hlt1 : w.heap.size + 1 < W2.heap.size := by omega
  generalize w.heap.size + 1 = B1 at hlt1 j0 j3 ⊢
  obtain ⟨B0, hB0⟩ : ∃ B0, w.heap.size = B0 := ⟨_, rfl⟩
  have HW0 : Hid (w.heap.size = B0) := hB0
  rw [hB0] at k0 k1 k3 k4 hlt0 HB0 ⊢
  clear hz2 HK HH hB0
  have ne0 := World.new_ne W2 ⟨B0, 0, none⟩ k0
  have ne1 := World.new_ne W2 ⟨B1, 0, none⟩ j0
  have aq01 : W2.heap.size + 1 ≠ B0 := by omega
  have bq01 : B0 ≠ W2.heap.size + 1 := by omega
  have cq01 : B0 < W2.heap.size + 1 := by omega
  have aq01p1 : W2.heap.size + 1 + 1 ≠ B0 := by omega
  have bq01p1 : B0 ≠ W2.heap.size + 1 + 1 := by omega
  have cq01p1 : B0 < W2.heap.size + 1 + 1 := by omega
  have aq02 : W2.heap.size + 2 ≠ B0 := by omega
  have bq02 : B0 ≠ W2.heap.size + 2 := by omega
  have cq02 : B0 < W2.heap.size + 2 := by omega
  have aq03 : W2.heap.size + 3 ≠ B0 := by omega
  have bq03 : B0 ≠ W2.heap.size + 3 := by omega
  have cq03 : B0 < W2.heap.size + 3 := by omega
  have aq11 : W2.heap.size + 1 ≠ B1 := by omega
  have bq11 : B1 ≠ W2.heap.size + 1 := by omega
  have cq11 : B1 < W2.heap.size + 1 := by omega
  have aq11p1 : W2.heap.size + 1 + 1 ≠ B1 := by omega
  have bq11p1 : B1 ≠ W2.heap.size + 1 + 1 := by omega
  have cq11p1 : B1 < W2.heap.size + 1 + 1 := by omega
  have aq12 : W2.heap.size + 2 ≠ B1 := by omega
  have bq12 : B1 ≠ W2.heap.size + 2 := by omega
  have cq12 : B1 < W2.heap.size + 2 := by omega
  have aq13 : W2.heap.size + 3 ≠ B1 := by omega
  have bq13 : B1 ≠ W2.heap.size + 3 := by omega
  have cq13 : B1 < W2.heap.size + 3 := by omega
  go_cut [5, 6, 7] from 8 to 22 (fun x y z w' => ∃ g5 g6 g7, x = .pointer (some ⟨g5, 0, none⟩) ∧ y = .pointer (some ⟨g6, 0, none⟩) ∧ z = .pointer (some ⟨g7, 0, none⟩) ∧ EndAt w' g5 a s ∧ EndAt w' g6 a' s' ∧ EndAt w' g7 b' d' ∧ Below W2.heap.size W2 w')
  case first =>
    go_region_held3 (fun w' => w'.cell? ⟨B0, 0, none⟩ = some (.int .u32 a') ∧ w'.cell? ⟨B0, 1, none⟩ = some (.int .u32 b') ∧ w'.cell? ⟨B0, 3, none⟩ = some (.int .u16 s') ∧ w'.cell? ⟨B0, 4, none⟩ = some (.int .u16 d') ∧ w'.cell? ⟨B1, 0, none⟩ = some (.int .u32 a) ∧ w'.cell? ⟨B1, 3, none⟩ = some (.int .u16 s)) (first | (go_keep; done) | exact ⟨al3 k0 _ _ _, al3 k1 _ _ _, al3 k3 _ _ _, al3 k4 _ _ _, al3 j0 _ _ _, al3 j3 _ _ _⟩) (fail)
    all_goals
      go_wp2_with fail
      go_meet
      refine ⟨_, _, _, rfl, rfl, rfl, ⟨by go_simp, by go_simp, fun i => by go_simp, by first | (simp; done) | (simp; omega)⟩, ⟨by go_simp, by go_simp, fun i => by go_simp, by first | (simp; done) | (simp; omega)⟩, ⟨by go_simp, by go_simp, fun i => by go_simp, by first | (simp; done) | (simp; omega)⟩, ?_⟩
      repeat (first | with_reducible exact Below.refl _ _ | with_reducible refine Below.drew ?_ | with_reducible refine Below.alloc ?_ (by first | (simp; done) | (simp; omega)) _)
  obtain ⟨g5, g6, g7, rfl, rfl, rfl, h5, h6, h7, hb⟩ := hcut
  have x0 := h5.c0
  have x1 := h5.c1
  have y0 := h6.c0
  have y1 := h6.c1
  have z0 := h7.c0
  have z1 := h7.c1
  have HB : Hid (Below w.heap.size w wc) := by
    have h0 := HB0.out
    rw [← HW0.out] at h0
    exact h0.trans (hb.mono (by rw [HW0.out]; omega))
  obtain ⟨t1, ht1⟩ : ∃ t1, decide (a = b' ∧ s = d') = t1 := ⟨_, rfl⟩
  obtain ⟨t2, ht2⟩ : ∃ t2, decide (a = a' ∧ s = s') = t2 := ⟨_, rfl⟩
  rw [ht1, ht2] at HE
  rw [ht1] at e1
  rw [ht2] at e2
  clear h5 h6 h7 hb ht1 ht2
  cases t1
  all_goals
    go_wp2_with fail
    go_ret
    exact ⟨by rw [HE.out]; rfl, HB.out⟩
end Go.Proofs.YtclpnafiiobfhabGreatDoor
namespace Go.Proofs.YtclpnafiiobfhabGreatDoor
open Go.RowKit
set_option linter.unusedVariables false
set_option linter.unusedSimpArgs false

/-- a flow in a box, and a header in the next -/
structure FlAt (w W : World) (x : Fl) (h : Hd) : Prop where
  c : ∀ i v, x.cells[i]? = some v → W.cell? ⟨w.heap.size, i, none⟩ = some v
  f : ∀ i, W.frozen? ⟨w.heap.size, i, none⟩ = false
  k : ∀ i v, h.cells[i]? = some v → W.cell? ⟨w.heap.size + 1, i, none⟩ = some v
  b : Below w.heap.size w W
  sz : w.heap.size + 2 ≤ W.heap.size
theorem FlAt.made (w : World) (x : Fl) (h : Hd) : FlAt w ((w.alloc (.cells x.cells 113)).alloc (.cells h.cells 28)) x h :=
  ⟨fun i v hv => by rw [World.cell?_alloc_lt _ _ _ (by simp), World.cell?_alloc_at _ _ _ _ rfl]; exact hv, fun i => by go_simp, fun i v hv => by rw [World.cell?_alloc_at _ _ _ _ (by simp)]; exact hv, ((Below.refl _ _).alloc (Nat.le_refl _) _).alloc (by simp) _, by simp⟩
theorem FlAt.below {w W W' : World} {x : Fl} {h : Hd} (q : FlAt w W x h) (hb : Below W.heap.size W W') : FlAt w W' x h :=
  ⟨fun i v hv => (hb.cell (p := ⟨w.heap.size, i, none⟩) (by show w.heap.size < _; have := q.sz; omega)).trans (q.c i v hv), fun i => (hb.frozen (p := ⟨w.heap.size, i, none⟩) (by show w.heap.size < _; have := q.sz; omega)).trans (q.f i), fun i v hv => (hb.cell (p := ⟨w.heap.size + 1, i, none⟩) (by show w.heap.size + 1 < _; have := q.sz; omega)).trans (q.k i v hv), q.b.trans (hb.mono q.b.size), Nat.le_trans q.sz hb.size⟩
set_option maxHeartbeats 1600000 in
theorem state_any (x : Fl) (h : Hd) (w : World) :
    Calls Tryz.prog 68 #[.agg x.cells, .agg h.cells] w fun e w' => e = .returned (.int .u8 (stateF (some x) h : Int)) ∧ Below w.heap.size w w' := by
  have HE : Hid (stateF (some x) h = if (x.rep || backF x h) = true then 1 else 0) := rfl
  have HBk : Hid (∀ W : World, Calls Tryz.prog 103 #[.agg x.cells, .agg h.cells] W fun e w' => e = .returned (.bool (backF x h)) ∧ Below W.heap.size W w') := fun W => isBack_any x h W
  generalize stateF (some x) h = st at HE
  generalize backF x h = q at HE HBk
  obtain ⟨a, b, p, s, d, f⟩ := h
  obtain ⟨a', b', p', s', d', rep, clo, u⟩ := x
  dsimp only [Hd.cells, Fl.cells] at HE HBk ⊢
  cases rep with
  | true =>
    go_enter Tryz.func68, Tryz.ntmps68
    go_wp2_with fail
    go_ret
    exact ⟨by rw [HE.out]; rfl, ((Below.refl _ _).alloc (Nat.le_refl _) _).alloc (by simp) _⟩
  | false =>
    cases q
    all_goals
      go_enter Tryz.func68, Tryz.ntmps68
      go_wp2_with fail
      refine (HBk.out _).mono ?_
      rintro e w2 ⟨rfl, hb2⟩
      have HB2 : Hid (Below w.heap.size w w2) := (((Below.refl _ _).alloc (Nat.le_refl _) _).alloc (by simp) _).trans (hb2.mono (by simp; omega))
      clear hb2
      go_wp2_with fail
      go_ret
      exact ⟨by rw [HE.out]; rfl, HB2.out⟩
theorem heard_results (tmps : Array Value) (W : World) (g : Nat) (L : List Value) (h4 : tmps.getD 4 undef = .pointer (some ⟨g, 0, none⟩)) (hr : Blk 113 W g L) (hl : L.length = 8) : (results Tryz.f70 tmps).run Tryz.prog W = .ok (.agg L.toArray) W := by
  have h4' : tmps[4]?.getD undef = .pointer (some ⟨g, 0, none⟩) := by simpa using h4
  simp [results, Tryz.results70, h4', asAddr, load_flow hr hl]
set_option maxRecDepth 20000 in
set_option maxHeartbeats 3200000 in
theorem heard_any (x : Fl) (h : Hd) (w : World) (hf : 0 ≤ h.f ∧ h.f ≤ 255) :
    Calls Tryz.prog 70 #[.agg x.cells, .agg h.cells] w fun e w' => e = .returned (.agg (Fl.mk x.a x.b x.p x.s x.d (x.rep || backF x h) (x.clo || endsH h) x.u).l.toArray) ∧ Below w.heap.size w w' := by
  have HBk : Hid (∀ W : World, Calls Tryz.prog 103 #[.agg x.cells, .agg h.cells] W fun e w' => e = .returned (.bool (backF x h)) ∧ Below W.heap.size W w') := fun W => isBack_any x h W
  generalize backF x h = q at HBk ⊢
  have ox := x.one
  have oh := h.one
  obtain ⟨a, b, p, s, d, f⟩ := h
  obtain ⟨a', b', p', s', d', rep, clo, u⟩ := x
  dsimp only at hf
  obtain ⟨F, rfl⟩ : ∃ F : Nat, f = (F : Int) := ⟨f.toNat, by omega⟩
  have i1 : bits BinOp.and IntKind.u8 (F : Int) 5 = ((F &&& 5 : Nat) : Int) := and8_g F 5 (by omega) (by decide)
  have HE : Hid (endsH ⟨a, b, p, s, d, (F : Int)⟩ = ((p == 6) && (((F &&& 5 : Nat) : Int) != 0))) := show endsH ⟨a, b, p, s, d, (F : Int)⟩ = _ by
    unfold endsH
    simp only [Int.toNat_natCast]
    by_cases h1 : p = 6 <;> by_cases h2 : F &&& 5 = 0 <;> simp [h1, h2] <;> omega
  generalize ((F &&& 5 : Nat) : Int) = y at i1 HE
  generalize endsH ⟨a, b, p, s, d, (F : Int)⟩ = ends at HE ⊢
  obtain ⟨q6, hq6⟩ : ∃ t, (p == 6) = t := ⟨_, rfl⟩
  obtain ⟨qy, hqy⟩ : ∃ t, (y != 0) = t := ⟨_, rfl⟩
  rw [hq6, hqy] at HE
  dsimp only [Hd.cells, Fl.cells, Fl.l, Hd.l] at HBk ox oh ⊢
  have OX : Hid (∀ v ∈ ([.int .u32 a', .int .u32 b', .int .u8 p', .int .u16 s', .int .u16 d', .bool rep, .bool clo, .int .u64 (u : Int)] : List Value), v.oneCell' = true) := ox
  have OH : Hid (∀ v ∈ ([.int .u32 a, .int .u32 b, .int .u8 p, .int .u16 s, .int .u16 d, .int .u8 (F : Int)] : List Value), v.oneCell' = true) := oh
  clear hf ox oh
  go_enter Tryz.func70, Tryz.ntmps70
  go_wp2_with fail
  refine (HBk.out _).mono ?_
  rintro e w2 ⟨rfl, hb2⟩
  have A2 : Hid (Blk 113 w2 w.heap.size [.int .u32 a', .int .u32 b', .int .u8 p', .int .u16 s', .int .u16 d', .bool rep, .bool clo, .int .u64 (u : Int)]) := (((Blk.made w _ _ OX.out).alloc _).alloc _).below hb2 (by simp; omega)
  have K2 : Hid (Blk 28 w2 (w.heap.size + 1) [.int .u32 a, .int .u32 b, .int .u8 p, .int .u16 s, .int .u16 d, .int .u8 (F : Int)]) := by
    have h := ((Blk.made (w.alloc (.cells #[.int .u32 a', .int .u32 b', .int .u8 p', .int .u16 s', .int .u16 d', .bool rep, .bool clo, .int .u64 (u : Int)] 113)) 28 _ OH.out).alloc (.cells #[.int .u32 0, .int .u32 0, .int .u8 0, .int .u16 0, .int .u16 0, .bool false, .bool false, .int .u64 0] 113)).below hb2 (by simp)
    rw [show (w.alloc (.cells #[.int .u32 a', .int .u32 b', .int .u8 p', .int .u16 s', .int .u16 d', .bool rep, .bool clo, .int .u64 (u : Int)] 113)).heap.size = w.heap.size + 1 from by simp] at h
    exact h
  have R2 : Hid (Blk 113 w2 (w.heap.size + 2) [.int .u32 0, .int .u32 0, .int .u8 0, .int .u16 0, .int .u16 0, .bool false, .bool false, .int .u64 0]) := by
    have h := (Blk.made ((w.alloc (.cells #[.int .u32 a', .int .u32 b', .int .u8 p', .int .u16 s', .int .u16 d', .bool rep, .bool clo, .int .u64 (u : Int)] 113)).alloc (.cells #[.int .u32 a, .int .u32 b, .int .u8 p, .int .u16 s, .int .u16 d, .int .u8 (F : Int)] 28)) 113 [.int .u32 0, .int .u32 0, .int .u8 0, .int .u16 0, .int .u16 0, .bool false, .bool false, .int .u64 0] (Fl.one ⟨0, 0, 0, 0, 0, false, false, 0⟩)).below hb2 (by simp)
    rw [show ((w.alloc (.cells #[.int .u32 a', .int .u32 b', .int .u8 p', .int .u16 s', .int .u16 d', .bool rep, .bool clo, .int .u64 (u : Int)] 113)).alloc (.cells #[.int .u32 a, .int .u32 b, .int .u8 p, .int .u16 s, .int .u16 d, .int .u8 (F : Int)] 28)).heap.size = w.heap.size + 2 from by simp] at h
    exact h
  have B2 : Hid (Below w.heap.size w w2) := ((((Below.refl _ _).alloc (Nat.le_refl _) _).alloc (by simp) _).alloc (by simp; omega) _).trans (hb2.mono (by simp; omega))
  clear hb2 OX OH
  cases q with
  | false =>
    go_upto_region 3 with fail
    have A3 : Hid (Blk 113 (w2) w.heap.size [.int .u32 a', .int .u32 b', .int .u8 p', .int .u16 s', .int .u16 d', .bool rep, .bool clo, .int .u64 (u : Int)]) := A2.out
    have K3 : Hid (Blk 28 (w2) (w.heap.size + 1) [.int .u32 a, .int .u32 b, .int .u8 p, .int .u16 s, .int .u16 d, .int .u8 (F : Int)]) := K2.out
    have R3 : Hid (Blk 113 (w2) (w.heap.size + 2) [.int .u32 0, .int .u32 0, .int .u8 0, .int .u16 0, .int .u16 0, .bool false, .bool false, .int .u64 0]) := R2.out
    have B3 : Hid (Below w.heap.size w (w2)) := B2.out
    clear A2 K2 R2 B2
    generalize w2 = W3 at A3 K3 R3 B3 ⊢
    have k2 := K3.out.cell 2 _ rfl
    have k5 := K3.out.cell 5 _ rfl
    have x6 := A3.out.cell 6 _ rfl
    have f6 := A3.out.frozen 6
    cases q6 with
    | false =>
      go_wp2_with (first | (refine wpList_load_row rfl 113 _ rfl w.heap.size rfl 113 ([.int .u32 a', .int .u32 b', .int .u8 p', .int .u16 s', .int .u16 d', .bool rep, .bool clo, .int .u64 (u : Int)] : List Value).toArray (0, 0) _ A3.out.1 Tryz.underlying113 rfl (sizeFl rfl) ?_) | (refine wpList_store_rowTo rfl 113 _ _ rfl rfl (w.heap.size + 2) ([.int .u32 a', .int .u32 b', .int .u8 p', .int .u16 s', .int .u16 d', .bool rep, .bool clo, .int .u64 (u : Int)] : List Value).toArray rfl rfl 113 _ R3.out.1 (sizeFl rfl) rfl (gone A3.out.2) ?_))
      refine bodyPost_ret (v := .agg ([.int .u32 a', .int .u32 b', .int .u8 p', .int .u16 s', .int .u16 d', .bool rep, .bool clo, .int .u64 (u : Int)] : List Value).toArray) (heard_results _ _ _ _ rfl (R3.out.row A3.out.2) rfl) rfl ⟨by rw [HE.out]; simp, gbelow_row B3.out (by omega) _⟩
    | true =>
      cases qy with
      | false =>
        go_wp2_with (first | (refine wpList_load_row rfl 113 _ rfl w.heap.size rfl 113 ([.int .u32 a', .int .u32 b', .int .u8 p', .int .u16 s', .int .u16 d', .bool rep, .bool clo, .int .u64 (u : Int)] : List Value).toArray (0, 0) _ A3.out.1 Tryz.underlying113 rfl (sizeFl rfl) ?_) | (refine wpList_store_rowTo rfl 113 _ _ rfl rfl (w.heap.size + 2) ([.int .u32 a', .int .u32 b', .int .u8 p', .int .u16 s', .int .u16 d', .bool rep, .bool clo, .int .u64 (u : Int)] : List Value).toArray rfl rfl 113 _ R3.out.1 (sizeFl rfl) rfl (gone A3.out.2) ?_))
        refine bodyPost_ret (v := .agg ([.int .u32 a', .int .u32 b', .int .u8 p', .int .u16 s', .int .u16 d', .bool rep, .bool clo, .int .u64 (u : Int)] : List Value).toArray) (heard_results _ _ _ _ rfl (R3.out.row A3.out.2) rfl) rfl ⟨by rw [HE.out]; simp, gbelow_row B3.out (by omega) _⟩
      | true =>
        have A4 : Hid (Blk 113 (W3.setCell ⟨w.heap.size, 6, none⟩ (.bool true)) w.heap.size [.int .u32 a', .int .u32 b', .int .u8 p', .int .u16 s', .int .u16 d', .bool rep, .bool true, .int .u64 (u : Int)]) := A3.out.set 6 (.bool true)
        have R4 : Hid (Blk 113 (W3.setCell ⟨w.heap.size, 6, none⟩ (.bool true)) (w.heap.size + 2) [.int .u32 0, .int .u32 0, .int .u8 0, .int .u16 0, .int .u16 0, .bool false, .bool false, .int .u64 0]) := R3.out.other _ (by omega)
        go_wp2_with (first | (refine wpList_load_row rfl 113 _ rfl w.heap.size rfl 113 ([.int .u32 a', .int .u32 b', .int .u8 p', .int .u16 s', .int .u16 d', .bool rep, .bool true, .int .u64 (u : Int)] : List Value).toArray (0, 0) _ A4.out.1 Tryz.underlying113 rfl (sizeFl rfl) ?_) | (refine wpList_store_rowTo rfl 113 _ _ rfl rfl (w.heap.size + 2) ([.int .u32 a', .int .u32 b', .int .u8 p', .int .u16 s', .int .u16 d', .bool rep, .bool true, .int .u64 (u : Int)] : List Value).toArray rfl rfl 113 _ R4.out.1 (sizeFl rfl) rfl (gone A4.out.2) ?_))
        refine bodyPost_ret (v := .agg ([.int .u32 a', .int .u32 b', .int .u8 p', .int .u16 s', .int .u16 d', .bool rep, .bool true, .int .u64 (u : Int)] : List Value).toArray) (heard_results _ _ _ _ rfl (R4.out.row A4.out.2) rfl) rfl ⟨by rw [HE.out]; simp, gbelow_row (B3.out.setCell (p := ⟨w.heap.size, 6, none⟩) (Nat.le_refl _) _) (by omega) _⟩
  | true =>
    have x5 := A2.out.cell 5 _ rfl
    have f5 := A2.out.frozen 5
    go_upto_region 3 with fail
    have A3 : Hid (Blk 113 (w2.setCell ⟨w.heap.size, 5, none⟩ (.bool true)) w.heap.size [.int .u32 a', .int .u32 b', .int .u8 p', .int .u16 s', .int .u16 d', .bool true, .bool clo, .int .u64 (u : Int)]) := A2.out.set 5 (.bool true)
    have K3 : Hid (Blk 28 (w2.setCell ⟨w.heap.size, 5, none⟩ (.bool true)) (w.heap.size + 1) [.int .u32 a, .int .u32 b, .int .u8 p, .int .u16 s, .int .u16 d, .int .u8 (F : Int)]) := K2.out.other _ (by omega)
    have R3 : Hid (Blk 113 (w2.setCell ⟨w.heap.size, 5, none⟩ (.bool true)) (w.heap.size + 2) [.int .u32 0, .int .u32 0, .int .u8 0, .int .u16 0, .int .u16 0, .bool false, .bool false, .int .u64 0]) := R2.out.other _ (by omega)
    have B3 : Hid (Below w.heap.size w (w2.setCell ⟨w.heap.size, 5, none⟩ (.bool true))) := B2.out.setCell (p := ⟨w.heap.size, 5, none⟩) (Nat.le_refl _) _
    clear A2 K2 R2 B2
    generalize w2.setCell ⟨w.heap.size, 5, none⟩ (.bool true) = W3 at A3 K3 R3 B3 ⊢
    have k2 := K3.out.cell 2 _ rfl
    have k5 := K3.out.cell 5 _ rfl
    have x6 := A3.out.cell 6 _ rfl
    have f6 := A3.out.frozen 6
    cases q6 with
    | false =>
      go_wp2_with (first | (refine wpList_load_row rfl 113 _ rfl w.heap.size rfl 113 ([.int .u32 a', .int .u32 b', .int .u8 p', .int .u16 s', .int .u16 d', .bool true, .bool clo, .int .u64 (u : Int)] : List Value).toArray (0, 0) _ A3.out.1 Tryz.underlying113 rfl (sizeFl rfl) ?_) | (refine wpList_store_rowTo rfl 113 _ _ rfl rfl (w.heap.size + 2) ([.int .u32 a', .int .u32 b', .int .u8 p', .int .u16 s', .int .u16 d', .bool true, .bool clo, .int .u64 (u : Int)] : List Value).toArray rfl rfl 113 _ R3.out.1 (sizeFl rfl) rfl (gone A3.out.2) ?_))
      refine bodyPost_ret (v := .agg ([.int .u32 a', .int .u32 b', .int .u8 p', .int .u16 s', .int .u16 d', .bool true, .bool clo, .int .u64 (u : Int)] : List Value).toArray) (heard_results _ _ _ _ rfl (R3.out.row A3.out.2) rfl) rfl ⟨by rw [HE.out]; simp, gbelow_row B3.out (by omega) _⟩
    | true =>
      cases qy with
      | false =>
        go_wp2_with (first | (refine wpList_load_row rfl 113 _ rfl w.heap.size rfl 113 ([.int .u32 a', .int .u32 b', .int .u8 p', .int .u16 s', .int .u16 d', .bool true, .bool clo, .int .u64 (u : Int)] : List Value).toArray (0, 0) _ A3.out.1 Tryz.underlying113 rfl (sizeFl rfl) ?_) | (refine wpList_store_rowTo rfl 113 _ _ rfl rfl (w.heap.size + 2) ([.int .u32 a', .int .u32 b', .int .u8 p', .int .u16 s', .int .u16 d', .bool true, .bool clo, .int .u64 (u : Int)] : List Value).toArray rfl rfl 113 _ R3.out.1 (sizeFl rfl) rfl (gone A3.out.2) ?_))
        refine bodyPost_ret (v := .agg ([.int .u32 a', .int .u32 b', .int .u8 p', .int .u16 s', .int .u16 d', .bool true, .bool clo, .int .u64 (u : Int)] : List Value).toArray) (heard_results _ _ _ _ rfl (R3.out.row A3.out.2) rfl) rfl ⟨by rw [HE.out]; simp, gbelow_row B3.out (by omega) _⟩
      | true =>
        have A4 : Hid (Blk 113 (W3.setCell ⟨w.heap.size, 6, none⟩ (.bool true)) w.heap.size [.int .u32 a', .int .u32 b', .int .u8 p', .int .u16 s', .int .u16 d', .bool true, .bool true, .int .u64 (u : Int)]) := A3.out.set 6 (.bool true)
        have R4 : Hid (Blk 113 (W3.setCell ⟨w.heap.size, 6, none⟩ (.bool true)) (w.heap.size + 2) [.int .u32 0, .int .u32 0, .int .u8 0, .int .u16 0, .int .u16 0, .bool false, .bool false, .int .u64 0]) := R3.out.other _ (by omega)
        go_wp2_with (first | (refine wpList_load_row rfl 113 _ rfl w.heap.size rfl 113 ([.int .u32 a', .int .u32 b', .int .u8 p', .int .u16 s', .int .u16 d', .bool true, .bool true, .int .u64 (u : Int)] : List Value).toArray (0, 0) _ A4.out.1 Tryz.underlying113 rfl (sizeFl rfl) ?_) | (refine wpList_store_rowTo rfl 113 _ _ rfl rfl (w.heap.size + 2) ([.int .u32 a', .int .u32 b', .int .u8 p', .int .u16 s', .int .u16 d', .bool true, .bool true, .int .u64 (u : Int)] : List Value).toArray rfl rfl 113 _ R4.out.1 (sizeFl rfl) rfl (gone A4.out.2) ?_))
        refine bodyPost_ret (v := .agg ([.int .u32 a', .int .u32 b', .int .u8 p', .int .u16 s', .int .u16 d', .bool true, .bool true, .int .u64 (u : Int)] : List Value).toArray) (heard_results _ _ _ _ rfl (R4.out.row A4.out.2) rfl) rfl ⟨by rw [HE.out]; simp, gbelow_row (B3.out.setCell (p := ⟨w.heap.size, 6, none⟩) (Nat.le_refl _) _) (by omega) _⟩
end Go.Proofs.YtclpnafiiobfhabGreatDoor

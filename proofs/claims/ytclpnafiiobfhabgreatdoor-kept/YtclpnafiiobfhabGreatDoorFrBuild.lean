import Derived.Test.YtclpnafiiobfhabGreatDoorFrCan
import Derived.Test.YtclpnafiiobfhabGreatDoorInfo8
namespace Go.Proofs.YtclpnafiiobfhabGreatDoor
open Go.RowKit
set_option linter.unusedVariables false
set_option linter.unusedSimpArgs false

theorem setRow_other (w : World) (g k : Nat) (cs : Array Value) (h : k ≠ g) : (w.setRow g cs).heap[k]? = w.heap[k]? := by
  simp only [World.setRow, Array.getElem?_modify]
  rw [if_neg (fun e => h e.symm)]
theorem Buf.setRow {w : World} {g : Nat} {l : List Int} (h : Buf w g l) (l' : List Int) : Buf (w.setRow g (l'.map (Value.int .u8)).toArray) g l' := by
  unfold Buf at h ⊢
  exact setRow_heap w g _ _ _ _ h
theorem Tch.setRow {g : Nat} {a w : World} (h : Tch g a w) (cs : Array Value) : Tch g a (w.setRow g cs) :=
  h.trans ⟨rfl, rfl, rfl, by simp [World.setRow], fun k _ hk => setRow_other w g k cs hk⟩

/-- a slice's content -/
def PayIs (w : World) (pa : Option Addr) (pl : List Int) : Prop := pl = [] ∨ ∃ b off, pa = some ⟨b, off, none⟩ ∧ b < w.heap.size ∧ ∀ i, i < pl.length → w.cell? ⟨b, off + i, none⟩ = some (.int .u8 (pl.getD i 0))
theorem PayIs.later {w w' : World} {pa : Option Addr} {pl : List Int} (h : PayIs w pa pl) (hs : w.heap.size ≤ w'.heap.size) (hk : ∀ k, k < w.heap.size → w'.heap[k]? = w.heap[k]?) : PayIs w' pa pl := by
  rcases h with h | ⟨b, off, e, hb, hc⟩
  · exact .inl h
  · refine .inr ⟨b, off, e, Nat.lt_of_lt_of_le hb hs, fun i hi => ?_⟩
    rw [World.cell?_of_block (a := ⟨b, off + i, none⟩) (w := w) (hk b hb)]; exact hc i hi
theorem PayIs.below {w w' : World} {pa : Option Addr} {pl : List Int} (h : PayIs w pa pl) (ht : Below w.heap.size w w') : PayIs w' pa pl := by
  rcases h with h | ⟨b, off, e, hb, hc⟩
  · exact .inl h
  · refine .inr ⟨b, off, e, Nat.lt_of_lt_of_le hb ht.size, fun i hi => ?_⟩
    rw [ht.cell (p := ⟨b, off + i, none⟩) hb]; exact hc i hi

/-- the frame's bytes, as the code makes them -/
def frameI (a b p sp dp f : Int) (K : Nat) (pl : List Int) : List Int :=
  headed ((innerOf (List.replicate (K + pl.length) 0) p sp dp f pl.length).take K ++ pl) ((K + pl.length : Nat) - 14 : Int) a b p

theorem copy_in (w : World) (g K : Nat) (l pl : List Int) (pa : Option Addr) (pc dc : Nat) (ty : TypeId) (hb : Buf w g l) (hl : l.length = K + pl.length) (hp : PayIs w pa pl) (hne : pl ≠ []) :
    (Builtin.copy_ #[30, 30] ty #[.slice (some ⟨g, K, none⟩) pl.length dc, .slice pa pl.length pc]).run Tryz.prog w = .ok (goInt pl.length) (w.setRow g ((l.take K ++ pl).map (Value.int .u8)).toArray) := by
  rcases hp with h | ⟨b, off, rfl, hlt, hc⟩
  · exact absurd h hne
  · have h := run_copy_row Tryz.prog w 30 30 ty 5 g K pl.length dc ⟨b, off, none⟩ pl.length pc _ 5 (pl.map (Value.int .u8)) Tryz.underlying30 Tryz.size8 hb (by simp) (fun j v hv => by
      simp only [List.getElem?_map] at hv
      by_cases hj : j < pl.length
      · have e := hc j hj
        have ea : (⟨b, off, none⟩ : Addr).add j = ⟨b, off + j, none⟩ := by simp only [Addr.add]; split <;> simp_all
        rw [ea, e]
        simp [List.getElem?_eq_getElem hj] at hv
        simp [List.getD_eq_getElem?_getD, List.getElem?_eq_getElem hj, hv]
      · simp [List.getElem?_eq_none (Nat.le_of_not_lt hj)] at hv) (by simp [hl]) (fun v hv => by
      simp only [List.mem_map] at hv
      obtain ⟨x, _, rfl⟩ := hv
      rfl)
    have e : ((l.map (Value.int .u8)).toArray.toList.take K ++ pl.map (Value.int .u8) ++ (l.map (Value.int .u8)).toArray.toList.drop (K + (pl.map (Value.int .u8)).length)) = (l.take K ++ pl).map (Value.int .u8) := by
      rw [List.drop_eq_nil_of_le (by simp [hl])]
      simp [List.map_take]
    rw [h, e]
    simp

theorem slice_pay (g K m : Nat) (x : Int) (hx : x = (K : Int)) (W : World) :
    (Instr.slice 30 (.slice (some ⟨g, 0, none⟩) (K + m) (K + m)) (some (.int .i64 x)) none none).run Tryz.prog W = .ok (.slice (some ⟨g, if m = 0 then 0 else K, none⟩) m m) W := by
  subst hx
  have hs : ∀ w, (sizeOf (Tryz.prog.elem 30)).run Tryz.prog w = .ok 1 w := fun w => by kernel_rfl
  have e : (Tryz.prog.elem 30) = 5 := by kernel_rfl
  rw [run_slice_l (P := Tryz.prog) W 30 (some ⟨g, 0, none⟩) (K + m) (K + m) (by rw [e]; exact Tryz.underlying30) .i64 (K : Int) (by omega) (by omega), hs]
  simp only [Result.andThen, sliced]
  by_cases hm : m = 0
  · subst hm; simp
  · have ea : (⟨g, 0, none⟩ : Addr).add K = ⟨g, K, none⟩ := by simp only [Addr.add]; split <;> simp_all
    simp [hm, ea]
theorem copy_any (w : World) (g K d : Nat) (l pl : List Int) (pa : Option Addr) (pc dc : Nat) (ty : TypeId) (hb : Buf w g l) (hl : l.length = K + pl.length) (hp : PayIs w pa pl) (hd : pl ≠ [] → d = K) :
    ∃ w', (Builtin.copy_ #[30, 30] ty #[.slice (some ⟨g, d, none⟩) pl.length dc, .slice pa pl.length pc]).run Tryz.prog w = .ok (goInt pl.length) w' ∧ Tch g w w' ∧ Buf w' g (l.take K ++ pl) := by
  by_cases hne : pl = []
  · subst hne
    refine ⟨w, ?_, Tch.refl _ _, ?_⟩
    · exact run_copy_none (P := Tryz.prog) w 30 30 ty 5 _ pa 0 dc 0 pc Tryz.underlying30 Tryz.size8 rfl
    · rw [List.append_nil, List.take_of_length_le (by rw [hl]; simp)]; exact hb
  · rw [hd hne]; exact ⟨_, copy_in w g K l pl pa pc dc ty hb hl hp hne, (Tch.refl _ _).setRow _, hb.setRow _⟩

set_option maxRecDepth 100000 in
set_option maxHeartbeats 1600000 in
theorem frBuild_yes (a b p sp dp f : Int) (pa : Option Addr) (pc : Nat) (pl : List Int) (w : World) (hra : 0 ≤ a ∧ a ≤ 4294967295) (hrb : 0 ≤ b ∧ b ≤ 4294967295) (hrp : 0 ≤ p ∧ p ≤ 255) (hsp : 0 ≤ sp ∧ sp ≤ 65535) (hdp : 0 ≤ dp ∧ dp ≤ 65535) (hf : 0 ≤ f ∧ f ≤ 255)
    (hm : pl.length ≤ 1000) (hY : Byt pl) (hP : PayIs w pa pl) (hmay : mayB p sp dp f = true) (K : Nat) (hK : (K : Int) = 34 + isz p) :
    Calls Tryz.prog 36 #[.agg #[.int .u32 a, .int .u32 b, .int .u8 p, .int .u16 sp, .int .u16 dp, .int .u8 f], .slice pa pl.length pc] w fun e w' => ∃ g, e = .returned (.tuple #[.slice (some ⟨g, 0, none⟩) (K + pl.length) (K + pl.length), .nilIface]) ∧ w.heap.size ≤ g ∧ Below w.heap.size w w' ∧ Buf w' g (frameI a b p sp dp f K pl) := by
  have hz := isz_bd p
  have hmk : ∀ w, (Instr.makeSlice 30 (.int .i64 (34 + isz p + (pl.length : Int))) (.int .i64 (34 + isz p + (pl.length : Int)))).run Tryz.prog w = .ok (.slice (some ⟨w.heap.size, 0, none⟩) (K + pl.length) (K + pl.length)) (w.alloc (.cells (madeCells #[.int .u8 0] (K + pl.length)) 5)) := by
    intro w
    have h := run_make_row' (P := Tryz.prog) 30 5 (.int .u8 0) 1 Tryz.underlying30 Tryz.info8 rfl .i64 .i64 (K + pl.length) (by omega) (by omega) w
    rw [show (((K + pl.length : Nat)) : Int) = 34 + isz p + (pl.length : Int) from by omega] at h
    exact h
  have HM : Hid (mayB p sp dp f = true) := hmay
  have HK : Hid ((K : Int) = 34 + isz p) := hK
  have HP : Hid (PayIs w pa pl) := hP
  clear hmay hK hP
  have hm' : (pl.length : Int) ≤ 1000 := by omega
  go_enter Tryz.func36, Tryz.ntmps36
  go_wp2_with (first | (go_at_call 58; refine (canBe_any _ _ _ _ _ _ _).mono ?_; rintro e w' ⟨rfl, rfl⟩; rw [HM.out]) | (go_at_call 59; refine (innerSize_any _ _).mono ?_; rintro e w' ⟨rfl, rfl⟩))
  have HB0 : Hid (Buf (((w.alloc (.cells #[.int .u32 a, .int .u32 b, .int .u8 p, .int .u16 sp, .int .u16 dp, .int .u8 f] 28)).alloc (.cells #[.int .u32 a, .int .u32 b, .int .u8 p, .int .u16 sp, .int .u16 dp, .int .u8 f] 28)).alloc (.cells (madeCells #[.int .u8 0] (K + pl.length)) 5)) (w.heap.size + 1 + 1) (List.replicate (K + pl.length) 0)) := by
    have h := Buf.made ((w.alloc (.cells #[.int .u32 a, .int .u32 b, .int .u8 p, .int .u16 sp, .int .u16 dp, .int .u8 f] 28)).alloc (.cells #[.int .u32 a, .int .u32 b, .int .u8 p, .int .u16 sp, .int .u16 dp, .int .u8 f] 28)) (K + pl.length)
    rw [show ((w.alloc (.cells #[.int .u32 a, .int .u32 b, .int .u8 p, .int .u16 sp, .int .u16 dp, .int .u8 f] 28)).alloc (.cells #[.int .u32 a, .int .u32 b, .int .u8 p, .int .u16 sp, .int .u16 dp, .int .u8 f] 28)).heap.size = w.heap.size + 1 + 1 from by simp] at h
    exact h
  have HW3 : Hid (Below w.heap.size w (((w.alloc (.cells #[.int .u32 a, .int .u32 b, .int .u8 p, .int .u16 sp, .int .u16 dp, .int .u8 f] 28)).alloc (.cells #[.int .u32 a, .int .u32 b, .int .u8 p, .int .u16 sp, .int .u16 dp, .int .u8 f] 28)).alloc (.cells (madeCells #[.int .u8 0] (K + pl.length)) 5))) := (((Below.refl _ _).alloc (Nat.le_refl _) _).alloc (by simp) _).alloc (by simp; omega) _
  refine (putInner_any (List.replicate (K + pl.length) 0) (w.heap.size + 1 + 1) (K + pl.length) (K + pl.length) a b p sp dp f pl.length _ (by simp) (by have := HK.out; omega) HB0.out hsp hdp (by omega) (by have := HK.out; omega)).mono ?_
  rintro e w1 ⟨rfl, ht1, hb1⟩
  have HT1 : Hid (Tch (w.heap.size + 1 + 1) (((w.alloc (.cells #[.int .u32 a, .int .u32 b, .int .u8 p, .int .u16 sp, .int .u16 dp, .int .u8 f] 28)).alloc (.cells #[.int .u32 a, .int .u32 b, .int .u8 p, .int .u16 sp, .int .u16 dp, .int .u8 f] 28)).alloc (.cells (madeCells #[.int .u8 0] (K + pl.length)) 5)) w1) := ht1
  have HB1 : Hid (Buf w1 (w.heap.size + 1 + 1) (innerOf (List.replicate (K + pl.length) 0) p sp dp f pl.length)) := hb1
  have x0 : w1.cell? ⟨w.heap.size, 0, none⟩ = some (.int .u32 a) := by rw [ht1.cell (p := ⟨w.heap.size, 0, none⟩) (by simp; omega) (by simp; omega), World.cell?_alloc_lt _ _ _ (by simp; omega), World.cell?_alloc_lt _ _ _ (by simp), World.cell?_alloc_at _ _ _ _ rfl]; rfl
  have x1 : w1.cell? ⟨w.heap.size, 1, none⟩ = some (.int .u32 b) := by rw [ht1.cell (p := ⟨w.heap.size, 1, none⟩) (by simp; omega) (by simp; omega), World.cell?_alloc_lt _ _ _ (by simp; omega), World.cell?_alloc_lt _ _ _ (by simp), World.cell?_alloc_at _ _ _ _ rfl]; rfl
  have x2 : w1.cell? ⟨w.heap.size, 2, none⟩ = some (.int .u8 p) := by rw [ht1.cell (p := ⟨w.heap.size, 2, none⟩) (by simp; omega) (by simp; omega), World.cell?_alloc_lt _ _ _ (by simp; omega), World.cell?_alloc_lt _ _ _ (by simp), World.cell?_alloc_at _ _ _ _ rfl]; rfl
  have x3 : w1.cell? ⟨w.heap.size, 3, none⟩ = some (.int .u16 sp) := by rw [ht1.cell (p := ⟨w.heap.size, 3, none⟩) (by simp; omega) (by simp; omega), World.cell?_alloc_lt _ _ _ (by simp; omega), World.cell?_alloc_lt _ _ _ (by simp), World.cell?_alloc_at _ _ _ _ rfl]; rfl
  have x4 : w1.cell? ⟨w.heap.size, 4, none⟩ = some (.int .u16 dp) := by rw [ht1.cell (p := ⟨w.heap.size, 4, none⟩) (by simp; omega) (by simp; omega), World.cell?_alloc_lt _ _ _ (by simp; omega), World.cell?_alloc_lt _ _ _ (by simp), World.cell?_alloc_at _ _ _ _ rfl]; rfl
  have x5 : w1.cell? ⟨w.heap.size, 5, none⟩ = some (.int .u8 f) := by rw [ht1.cell (p := ⟨w.heap.size, 5, none⟩) (by simp; omega) (by simp; omega), World.cell?_alloc_lt _ _ _ (by simp; omega), World.cell?_alloc_lt _ _ _ (by simp), World.cell?_alloc_at _ _ _ _ rfl]; rfl
  have z1 := ht1.size
  simp at z1
  clear ht1 hb1
  have HP1 : Hid (PayIs w1 pa pl) := HP.out.later (by omega) (fun k hk => (HT1.out.block k (by simp; omega) (by omega)).trans (HW3.out.block k hk))
  have hsl := slice_pay (w.heap.size + 1 + 1) K pl.length (34 + isz p) HK.out.symm
  obtain ⟨d, hd⟩ : ∃ d, d = (if pl.length = 0 then 0 else K) := ⟨_, rfl⟩
  rw [← hd] at hsl
  obtain ⟨w2, hcp, ht2, hb2⟩ := copy_any w1 (w.heap.size + 1 + 1) K d _ pl pa pc pl.length 3 HB1.out (by rw [innerOf_len]; simp) HP1.out (fun hne => by rw [hd, if_neg (by simpa using hne)])
  have HT2 : Hid (Tch (w.heap.size + 1 + 1) w1 w2) := ht2
  have HB2 : Hid (Buf w2 (w.heap.size + 1 + 1) ((innerOf (List.replicate (K + pl.length) 0) p sp dp f pl.length).take K ++ pl)) := hb2
  have y0 : w2.cell? ⟨w.heap.size, 0, none⟩ = some (.int .u32 a) := by rw [ht2.cell (p := ⟨w.heap.size, 0, none⟩) (by simp; omega) (by simp; omega)]; exact x0
  have y1 : w2.cell? ⟨w.heap.size, 1, none⟩ = some (.int .u32 b) := by rw [ht2.cell (p := ⟨w.heap.size, 1, none⟩) (by simp; omega) (by simp; omega)]; exact x1
  have y2 : w2.cell? ⟨w.heap.size, 2, none⟩ = some (.int .u8 p) := by rw [ht2.cell (p := ⟨w.heap.size, 2, none⟩) (by simp; omega) (by simp; omega)]; exact x2
  have y3 : w2.cell? ⟨w.heap.size, 3, none⟩ = some (.int .u16 sp) := by rw [ht2.cell (p := ⟨w.heap.size, 3, none⟩) (by simp; omega) (by simp; omega)]; exact x3
  have y4 : w2.cell? ⟨w.heap.size, 4, none⟩ = some (.int .u16 dp) := by rw [ht2.cell (p := ⟨w.heap.size, 4, none⟩) (by simp; omega) (by simp; omega)]; exact x4
  have y5 : w2.cell? ⟨w.heap.size, 5, none⟩ = some (.int .u8 f) := by rw [ht2.cell (p := ⟨w.heap.size, 5, none⟩) (by simp; omega) (by simp; omega)]; exact x5
  clear ht2 hb2 hd
  go_wp2_with fail
  refine (putHead_any _ (w.heap.size + 1 + 1) (K + pl.length) (K + pl.length) a b p sp dp f _ (by simp [innerOf_len]) (by have := HK.out; omega) ?_ HB2.out (by have := HK.out; omega) hra hrb hrp).mono ?_
  · exact Byt.append (fun x hx => innerOf_byt (Byt.zeros _) p sp dp f pl.length hsp hdp hf (by omega) x (List.mem_of_mem_take hx)) hY
  rintro e w3 ⟨rfl, ht3, hb3⟩
  go_wp2
  go_ret2
  refine ⟨_, rfl, by omega, ?_, hb3⟩
  refine HW3.out.trans ?_
  exact ((HT1.out.trans HT2.out).trans ht3).below (by omega) (by simp; omega)
end Go.Proofs.YtclpnafiiobfhabGreatDoor

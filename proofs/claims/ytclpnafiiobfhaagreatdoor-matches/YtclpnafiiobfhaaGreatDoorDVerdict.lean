import Derived.Test.YtclpnafiiobfhaaGreatDoorDHolds
import Derived.Test.YtclpnafiiobfhaaGreatDoorDRead
namespace Go.Proofs.YtclpnafiiobfhaaGreatDoor
open Go.RowKit
set_option linter.unusedVariables false
set_option linter.unusedSimpArgs false

theorem docRules_at : ∀ (rs : List Rl) (i k : Nat) (r : Rl), rs[i]? = some r → k < 24 → (docRules rs)[i * 24 + k]? = (docCells (r.v : Int) r.cs)[k]?
  | [], i, k, r, h, _ => by simp at h
  | x :: rs, 0, k, r, h, hk => by
    simp only [List.getElem?_cons_zero, Option.some.injEq] at h
    subst h
    show (docCells (x.v : Int) x.cs ++ docRules rs)[0 * 24 + k]? = _
    rw [List.getElem?_append_left (by rw [docCells_len]; omega), Nat.zero_mul, Nat.zero_add]
  | x :: rs, i + 1, k, r, h, hk => by
    simp only [List.getElem?_cons_succ] at h
    show (docCells (x.v : Int) x.cs ++ docRules rs)[(i + 1) * 24 + k]? = _
    rw [List.getElem?_append_right (by rw [docCells_len]; omega), docCells_len, show (i + 1) * 24 + k - 24 = i * 24 + k by omega]
    exact docRules_at rs i k r h hk
theorem own_at {w : World} {B g n c : Nat} {rs : List Rl} (h : w.ownsRow B 65 24 (.slice (some ⟨g, 0, none⟩) n c) n (docRules rs)) (hn : n = rs.length) (i : Nat) (r : Rl) (hr : rs[i]? = some r) : At w g (i * 24) (docCells (r.v : Int) r.cs) := by
  intro k x hx
  have hk : k < 24 := by
    have := (List.getElem?_eq_some_iff.1 hx).1
    rw [docCells_len] at this; exact this
  have hi : i < rs.length := (List.getElem?_eq_some_iff.1 hr).1
  rw [h.cellAt (i * 24 + k) (by subst hn; omega), docRules_at rs i k r hr hk, hx]
theorem docCs_step (cs : Cs) (a b p sp dp f : Int) (m : Int × Int) (c : Nat) (q : Bool) (hc : c < 8) (h : docCs cs a b p sp dp f m 8 0 = (q && docCs cs a b p sp dp f m (8 - c) c)) : docCs cs a b p sp dp f m 8 0 = ((q && docO cs c a b p sp dp f m) && docCs cs a b p sp dp f m (8 - (c + 1)) (c + 1)) := by
  rw [h, show 8 - c = (8 - (c + 1)) + 1 by omega, docCs, Bool.and_assoc]
theorem docV_step (pol : Nat) (a b p sp dp f : Int) (m : Int × Int) (rs : List Rl) (i : Nat) (r : Rl) (hr : rs[i]? = some r) : docV pol a b p sp dp f m (rs.drop i) = if docCs r.cs a b p sp dp f m 8 0 = true then r.v else docV pol a b p sp dp f m (rs.drop (i + 1)) := by
  obtain ⟨hi, e⟩ := List.getElem?_eq_some_iff.1 hr
  rw [List.drop_eq_getElem_cons hi, e, docV]
set_option maxRecDepth 20000 in
set_option maxHeartbeats 3200000 in
theorem dverdict_any (pol : Nat) (rs : List Rl) (rp : Option Addr) (rl rc B : Nat) (a b p sp dp f : Int) (m : Int × Int) (w : World) (hO : w.ownsRow B 65 24 (.slice rp rl rc) rs.length (docRules rs)) (hl48 : rs.length ≤ 48) (hgood : ∀ r ∈ rs, GoodR r)
    (ha : 0 ≤ a ∧ a ≤ 4294967295) (hb : 0 ≤ b ∧ b ≤ 4294967295) (hp : 0 ≤ p ∧ p ≤ 255) (hsp : 0 ≤ sp ∧ sp ≤ 65535) (hdp : 0 ≤ dp ∧ dp ≤ 65535) (hf : 0 ≤ f ∧ f ≤ 255) (hm : 0 ≤ m.2 ∧ m.2 ≤ 2) :
    Calls Tryz.prog 14 #[.agg #[.int .i64 (pol : Int), .slice rp rl rc], .agg #[.int .u32 a, .int .u32 b, .int .u8 p, .int .u16 sp, .int .u16 dp, .int .u8 f], .int .i64 m.1, .int .i64 m.2] w fun e w' => e = .returned (.int .i64 (docV pol a b p sp dp f m rs : Int)) ∧ Below w.heap.size w w' := by
  obtain ⟨p', c', hf'⟩ := d_form hO
  cases hf'
  have HAT : Hid (∀ i r, rs[i]? = some r → ∃ g, rp = some ⟨g, 0, none⟩ ∧ g < w.heap.size ∧ At w g (i * 24) (docCells (r.v : Int) r.cs)) := fun i r hr => by
    have hi : i < rs.length := (List.getElem?_eq_some_iff.1 hr).1
    rcases hO.2 with ⟨e, e'⟩ | ⟨g, cap, cur, e, hg, hh, hn, hm, _⟩
    · omega
    · cases e
      exact ⟨g, rfl, (Array.getElem?_eq_some_iff.1 hh).1, own_at hO rfl i r hr⟩
  have HG : Hid (∀ r ∈ rs, GoodR r) := hgood
  have HX : Hid ((0 ≤ a ∧ a ≤ 4294967295) ∧ (0 ≤ b ∧ b ≤ 4294967295) ∧ (0 ≤ p ∧ p ≤ 255) ∧ (0 ≤ sp ∧ sp ≤ 65535) ∧ (0 ≤ dp ∧ dp ≤ 65535) ∧ (0 ≤ f ∧ f ≤ 255) ∧ (0 ≤ m.2 ∧ m.2 ≤ 2)) := ⟨ha, hb, hp, hsp, hdp, hf, hm⟩
  obtain ⟨m1, m2⟩ := m
  dsimp only at HX ⊢
  clear hO hgood ha hb hp hsp hdp hf hm
  go_enter Tryz.func14, Tryz.ntmps14
  go_wp2_with fail
  have HB0 : Hid (Below w.heap.size w ((w.alloc (.cells #[.int .i64 (pol : Int), .slice rp rs.length rc] 27)).alloc (.cells #[.int .u32 a, .int .u32 b, .int .u8 p, .int .u16 sp, .int .u16 dp, .int .u8 f] 38))) := ((Below.refl _ _).alloc (Nat.le_refl _) _).alloc (by simp) _
  have hz2 : ((w.alloc (.cells #[.int .i64 (pol : Int), .slice rp rs.length rc] 27)).alloc (.cells #[.int .u32 a, .int .u32 b, .int .u8 p, .int .u16 sp, .int .u16 dp, .int .u8 f] 38)).heap.size = w.heap.size + 2 := by simp
  have HK : Hid (∀ i x, (#[.int .i64 (pol : Int), .slice rp rs.length rc] : Array Value)[i]? = some x → ((w.alloc (.cells #[.int .i64 (pol : Int), .slice rp rs.length rc] 27)).alloc (.cells #[.int .u32 a, .int .u32 b, .int .u8 p, .int .u16 sp, .int .u16 dp, .int .u8 f] 38)).cell? ⟨w.heap.size, i, none⟩ = some x) := fun i x hx => by
    rw [World.cell?_alloc_lt _ _ _ (by simp), World.cell?_alloc_at _ _ _ _ rfl]; exact hx
  have HH : Hid (∀ i x, (#[.int .u32 a, .int .u32 b, .int .u8 p, .int .u16 sp, .int .u16 dp, .int .u8 f] : Array Value)[i]? = some x → ((w.alloc (.cells #[.int .i64 (pol : Int), .slice rp rs.length rc] 27)).alloc (.cells #[.int .u32 a, .int .u32 b, .int .u8 p, .int .u16 sp, .int .u16 dp, .int .u8 f] 38)).cell? ⟨w.heap.size + 1, i, none⟩ = some x) := fun i x hx => by
    rw [World.cell?_alloc_at _ _ _ _ (by simp)]; exact hx
  generalize (w.alloc (.cells #[.int .i64 (pol : Int), .slice rp rs.length rc] 27)).alloc (.cells #[.int .u32 a, .int .u32 b, .int .u8 p, .int .u16 sp, .int .u16 dp, .int .u8 f] 38) = W2 at HB0 hz2 HK HH ⊢
  go_loopw [9] (fun i wr => ∃ j : Nat, j ≤ rs.length ∧ i = .int .i64 j ∧ docV pol a b p sp dp f (m1, m2) rs = docV pol a b p sp dp f (m1, m2) (rs.drop j) ∧ Below W2.heap.size W2 wr) (fun i _ => rs.length - (intOf i).toNat)
  case atStart => exact ⟨0, Nat.zero_le _, rfl, by rw [List.drop_zero], Below.refl _ _⟩
  case round =>
    obtain ⟨j, hj, rfl, hdv, hbr⟩ := hrel
    have HDV : Hid (docV pol a b p sp dp f (m1, m2) rs = docV pol a b p sp dp f (m1, m2) (rs.drop j)) := hdv
    have HBr : Hid (Below W2.heap.size W2 wr) := hbr
    have k0 := (hbr.cell (p := ⟨w.heap.size, 0, none⟩) (by show w.heap.size < _; omega)).trans (HK.out 0 _ rfl)
    have k1 := (hbr.cell (p := ⟨w.heap.size, 1, none⟩) (by show w.heap.size < _; omega)).trans (HK.out 1 _ rfl)
    have hz3 := hbr.size
    clear hdv hbr
    by_cases hlt : j < rs.length
    · obtain ⟨r, hr⟩ : ∃ r, rs[j]? = some r := ⟨_, List.getElem?_eq_getElem hlt⟩
      have HGR : Hid (GoodR r) := HG.out r (List.mem_of_getElem? hr)
      have HST : Hid (docV pol a b p sp dp f (m1, m2) rs = if docCs r.cs a b p sp dp f (m1, m2) 8 0 = true then r.v else docV pol a b p sp dp f (m1, m2) (rs.drop (j + 1))) := show _ = _ by rw [HDV.out]; exact docV_step pol a b p sp dp f (m1, m2) rs j r hr
      obtain ⟨g, rfl, hgl, hat⟩ := HAT.out j r hr
      have HA : Hid (At W2 g (j * 24) (docCells (r.v : Int) r.cs)) := hat.below HB0.out hgl
      have i1 : (0 : Int) ≤ (j : Int) := by omega
      have i2 : (j : Int) < (rs.length : Int) := by omega
      have i3 : IntKind.i64.wrap ((j : Int) + 1) = (j : Int) + 1 := by rw [IntKind.wrap_i64]; omega
      clear hat hr
      go_wp2_with fail
      go_loopw [10, 11] (fun q c wi => ∃ (k : Nat) (qb : Bool), k ≤ 8 ∧ c = .int .i64 k ∧ q = .bool qb ∧ docCs r.cs a b p sp dp f (m1, m2) 8 0 = (qb && docCs r.cs a b p sp dp f (m1, m2) (8 - k) k) ∧ Below W2.heap.size W2 wi) (fun _ c _ => 8 - (intOf c).toNat)
      case atStart => exact ⟨0, true, by omega, rfl, rfl, by rw [Bool.true_and], HBr.out⟩
      case round =>
        obtain ⟨k, qb, hk, rfl, rfl, hcs, hbi⟩ := hrel
        have HCS : Hid (docCs r.cs a b p sp dp f (m1, m2) 8 0 = (qb && docCs r.cs a b p sp dp f (m1, m2) (8 - k) k)) := hcs
        have HBi : Hid (Below W2.heap.size W2 wr) := hbi
        have q0 := (hbi.cell (p := ⟨w.heap.size, 0, none⟩) (by show w.heap.size < _; omega)).trans (HK.out 0 _ rfl)
        have q1 := (hbi.cell (p := ⟨w.heap.size, 1, none⟩) (by show w.heap.size < _; omega)).trans (HK.out 1 _ rfl)
        have g0 := (hbi.cell (p := ⟨w.heap.size + 1, 0, none⟩) (by show w.heap.size + 1 < _; omega)).trans (HH.out 0 _ rfl)
        have g1 := (hbi.cell (p := ⟨w.heap.size + 1, 1, none⟩) (by show w.heap.size + 1 < _; omega)).trans (HH.out 1 _ rfl)
        have g2 := (hbi.cell (p := ⟨w.heap.size + 1, 2, none⟩) (by show w.heap.size + 1 < _; omega)).trans (HH.out 2 _ rfl)
        have g3 := (hbi.cell (p := ⟨w.heap.size + 1, 3, none⟩) (by show w.heap.size + 1 < _; omega)).trans (HH.out 3 _ rfl)
        have g4 := (hbi.cell (p := ⟨w.heap.size + 1, 4, none⟩) (by show w.heap.size + 1 < _; omega)).trans (HH.out 4 _ rfl)
        have g5 := (hbi.cell (p := ⟨w.heap.size + 1, 5, none⟩) (by show w.heap.size + 1 < _; omega)).trans (HH.out 5 _ rfl)
        have HAi : Hid (At wr g (j * 24) (docCells (r.v : Int) r.cs)) := HA.out.below hbi (by omega)
        have hz4 := hbi.size
        clear hcs hbi
        by_cases hk8 : k < 8
        · obtain ⟨bh, hbh⟩ : ∃ q, (r.cs.getD k none).isSome = q := ⟨_, rfl⟩
          have c1 := HAi.out (1 + k) (.bool bh) (by rw [docCells_has _ _ k hk8, hbh])
          rw [← Nat.add_assoc] at c1
          have l1 : (0 : Int) ≤ (k : Int) := by omega
          have l2 : (k : Int) < 8 := by omega
          have l3 : IntKind.i64.wrap ((k : Int) + 1) = (k : Int) + 1 := by rw [IntKind.wrap_i64]; omega
          cases bh with
          | false =>
            have HO : Hid (docO r.cs k a b p sp dp f (m1, m2) = true) := show docO r.cs k a b p sp dp f (m1, m2) = true by
              unfold docO
              cases hq : r.cs.getD k none with
              | none => rfl
              | some x => rw [hq] at hbh; cases hbh
            clear hbh
            go_wp2_with fail
            go_roundw
            case rel => exact ⟨k + 1, qb, by omega, by go_num, rfl, by rw [docCs_step r.cs a b p sp dp f (m1, m2) k qb hk8 HCS.out, HO.out, Bool.and_true], HBi.out⟩
            case measure => simp [intOf]; omega
          | true =>
            obtain ⟨u, hu⟩ : ∃ u, r.cs.getD k none = some u := Option.isSome_iff_exists.1 hbh
            have HO : Hid (docO r.cs k a b p sp dp f (m1, m2) = docC k u a b p sp dp f (m1, m2)) := show docO r.cs k a b p sp dp f (m1, m2) = _ by unfold docO; rw [hu]
            have HHd : Hid (∀ W : World, W.heap = wr.heap → Calls Tryz.prog 33 #[.pointer (some ⟨g, j * 24, none⟩), .int .i64 (k : Int), .agg #[.int .u32 a, .int .u32 b, .int .u8 p, .int .u16 sp, .int .u16 dp, .int .u8 f], .int .i64 m1, .int .i64 m2] W fun e w' => e = .returned (.bool (docC k u a b p sp dp f (m1, m2))) ∧ Below W.heap.size W w') := fun W hW => dholds_any k g (j * 24) (r.v : Int) r.cs u a b p sp dp f (m1, m2) W hk8 (fun i x hx => by have := HAi.out i x hx; simp only [World.cell?, hW] at this ⊢; exact this) (by rw [hW]; omega) HGR.out.cs HX.out.1 HX.out.2.1 HX.out.2.2.1 HX.out.2.2.2.1 HX.out.2.2.2.2.1 HX.out.2.2.2.2.2.1 HX.out.2.2.2.2.2.2 hu
            obtain ⟨t, ht⟩ : ∃ t, docC k u a b p sp dp f (m1, m2) = t := ⟨_, rfl⟩
            rw [ht] at HO HHd
            clear hbh hu ht
            go_upto_region 9 with fail
            go_cut [12] from 32 to 40 (fun x w' => x = .bool t ∧ Below W2.heap.size W2 w')
            case first =>
              go_region_with (go_at_call 33; refine (HHd.out _ (by rfl)).mono ?_; rintro e w' ⟨rfl, hb'⟩)
              all_goals
                go_wp2_with fail
                go_meet
                exact ⟨rfl, HBi.out.drew.trans (hb'.mono (show W2.heap.size ≤ wr.heap.size from hz4))⟩
            obtain ⟨rfl, hb3⟩ := hcut
            have HB3 : Hid (Below W2.heap.size W2 wc) := hb3
            clear hb3
            cases qb
            all_goals
              go_wp2_with fail
              go_roundw
              case rel => exact ⟨k + 1, _, by omega, by go_num, rfl, by rw [docCs_step r.cs a b p sp dp f (m1, m2) k _ hk8 HCS.out, HO.out]; simp, HB3.out⟩
              case measure => simp [intOf]; omega
        · obtain rfl : k = 8 := by omega
          have HC8 : Hid (docCs r.cs a b p sp dp f (m1, m2) 8 0 = qb) := show _ = _ by rw [HCS.out]; exact Bool.and_true _
          have cv := HAi.out 0 (.int .i64 (r.v : Int)) rfl
          rw [Nat.add_zero] at cv
          cases qb with
          | true =>
            go_wp2_with fail
            go_ret
            refine ⟨?_, HB0.out.trans (HBi.out.mono (by omega))⟩
            rw [HST.out, if_pos HC8.out]; rfl
          | false =>
            go_wp2_with fail
            go_roundw
            case rel => exact ⟨j + 1, by omega, by go_num, by rw [HST.out, if_neg (by rw [HC8.out]; decide)], HBi.out⟩
            case measure => simp [intOf]; omega
    · have hjl : decide ((j : Int) < (rs.length : Int)) = false := by simp; omega
      have HE : Hid (docV pol a b p sp dp f (m1, m2) rs = pol) := show _ = _ by rw [HDV.out, List.drop_eq_nil_of_le (by omega)]; rfl
      go_wp2_with fail
      go_ret
      refine ⟨?_, HB0.out.trans (HBr.out.mono (by omega))⟩
      rw [HE.out]; rfl
end Go.Proofs.YtclpnafiiobfhaaGreatDoor

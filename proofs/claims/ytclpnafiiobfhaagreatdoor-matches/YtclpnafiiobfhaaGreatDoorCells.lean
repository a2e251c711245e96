import Derived.Test.YtclpnafiiobfhaaGreatDoorMach
import Derived.Test.YtclpnafiiobfhaaGreatDoorBuf
import Derived.Laws.IdiomCopy
namespace Go.Proofs.YtclpnafiiobfhaaGreatDoor
open Go.RowKit
set_option linter.unusedVariables false
set_option linter.unusedSimpArgs false

theorem run_make_wide {P : Program} (t e : TypeId) (zs : Array Value) (size bytes : Nat) (ht : P.underlying t = some (.slice e)) (hinfo : (P.info? e).map (fun i => (i.zero, i.size, i.bytes)) = some (some (.agg zs), size, bytes))
    (kl kc : IntKind) (n : Nat) (hbytes : bytes * n ≤ 281474976710656) (h63 : n ≤ 9223372036854775807) (w : World) :
    (Instr.makeSlice t (.int kl (n : Int)) (.int kc (n : Int))).run P w = .ok (.slice (some ⟨w.heap.size, 0, none⟩) n n) (w.alloc (.cells (madeCells zs (n * size)) e)) := by
  obtain ⟨i, hi, hzz⟩ := Option.map_eq_some_iff.1 hinfo
  simp only [Prod.mk.injEq] at hzz
  obtain ⟨hz, hs, hb⟩ := hzz
  have h := run_make (P := P) w t e i (.agg zs) ht hi hz kl kc n n (by omega) (by omega) (by rw [hb]; omega) (by omega)
  rw [Int.toNat_natCast, hs] at h
  exact h
theorem getD_set_self {α : Type} (l : List α) (j : Nat) (x d : α) (h : j < l.length) : (l.set j x).getD j d = x := by
  simp [List.getD_eq_getElem?_getD, h]
theorem getD_set_ne {α : Type} (l : List α) (i j : Nat) (x d : α) (h : i ≠ j) : (l.set i x).getD j d = l.getD j d := by
  simp [List.getD_eq_getElem?_getD, List.getElem?_set, h]
theorem cell_set_off (w : World) (g i j : Nat) (v : Value) (h : i ≠ j) : (w.setCell ⟨g, i, none⟩ v).cell? ⟨g, j, none⟩ = w.cell? ⟨g, j, none⟩ :=
  World.cell?_setCell_other _ _ _ _ (by intro e; apply h; cases e; rfl)
theorem frozen_set (w : World) (a b : Addr) (v : Value) : (w.setCell a v).frozen? b = w.frozen? b := by simp
theorem cell_set_same (w : World) (a : Addr) (v : Value) {u : Value} (h : w.cell? a = some u) : (w.setCell a v).cell? a = some v := World.cell?_setCell_same _ _ _ h
theorem frozen_setCells (g : Nat) : ∀ (vs : List Value) (o : Nat) (w : World) (x : Addr), (w.setCells g o vs).frozen? x = w.frozen? x
  | [], _, _, _ => rfl
  | v :: r, o, w, x => by rw [World.setCells, frozen_setCells g r]; simp
theorem size_setCells (g : Nat) : ∀ (vs : List Value) (o : Nat) (w : World), (w.setCells g o vs).heap.size = w.heap.size
  | [], _, _ => rfl
  | v :: r, o, w => by rw [World.setCells, size_setCells g r]; simp [World.setCell]
theorem Tch.drew {g : Nat} {a w : World} (h : Tch g a w) : Tch g a w.drew := ⟨h.os, h.tape, h.output, h.size, h.block⟩
theorem Tch.setCells {g : Nat} {a : World} : ∀ (vs : List Value) (o : Nat) (w : World), Tch g a w → Tch g a (w.setCells g o vs)
  | [], _, _, h => h
  | v :: r, o, w, h => by rw [World.setCells]; exact Tch.setCells r _ _ (h.set _ _)
/-- the last way is told last -/
theorem tell_snoc (F : List Fc) (a : Fc) (x : Ins) (i w : Nat) (l : List Int) (o : Int) :
    tell F a x i w (l ++ [o]) = (tell F a x i w l).set (i + 1 + o.toNat) (((tell F a x i w l).getD (i + 1 + o.toNat) fc0).meet (a.behind x (w + l.length))) := by
  induction l generalizing F w with
  | nil => rfl
  | cons p l ih =>
    rw [List.cons_append, tell, tell, ih]
    simp only [List.length_cons]
    rw [show w + 1 + l.length = w + (l.length + 1) by omega]
theorem take_snoc {α : Type} (l : List α) (v : Nat) (d : α) (h : v < l.length) : l.take (v + 1) = l.take v ++ [l.getD v d] := by
  rw [List.take_add_one, List.getD_eq_getElem?_getD, List.getElem?_eq_getElem h]; rfl
end Go.Proofs.YtclpnafiiobfhaaGreatDoor

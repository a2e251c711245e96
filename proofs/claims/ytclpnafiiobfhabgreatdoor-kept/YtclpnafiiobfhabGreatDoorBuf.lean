import Derived.Test.YtclpnafiiobfhabGreatDoorPlain
import Derived.Test.YtclpnafiiobfhabGreatDoorBase
import Derived.Deep.OwnRows
namespace Go.Proofs.YtclpnafiiobfhabGreatDoor
open Go.RowKit
set_option linter.unusedVariables false
set_option linter.unusedSimpArgs false

/-- block g holds the bytes l, and may be written -/
def Buf (w : World) (g : Nat) (l : List Int) : Prop := w.heap[g]? = some (.cells (l.map (Value.int .u8)).toArray 5 (0, 0))

theorem Buf.lt {w : World} {g : Nat} {l : List Int} (h : Buf w g l) : g < w.heap.size := (Array.getElem?_eq_some_iff.1 h).1
theorem Buf.cell {w : World} {g : Nat} {l : List Int} (h : Buf w g l) (i : Nat) (hi : i < l.length) : w.cell? ⟨g, i, none⟩ = some (.int .u8 (l.getD i 0)) := by
  unfold Buf at h
  simp only [World.cell?, h]
  simp [List.getElem?_eq_getElem hi, List.getD_eq_getElem?_getD]
theorem Buf.frozen {w : World} {g : Nat} {l : List Int} (h : Buf w g l) (i : Nat) : w.frozen? ⟨g, i, none⟩ = false := by
  unfold Buf at h
  simp [World.frozen?, h]
theorem Buf.set {w : World} {g : Nat} {l : List Int} (h : Buf w g l) (i : Nat) (v : Int) : Buf (w.setCell ⟨g, i, none⟩ (.int .u8 v)) g (l.set i v) := by
  unfold Buf at h ⊢
  simp only [World.setCell, Array.getElem?_modify, h, if_true, Option.map_some]
  simp [List.map_set]
theorem Buf.alloc {w : World} {g : Nat} {l : List Int} (h : Buf w g l) (o : Obj) : Buf (w.alloc o) g l := by
  have hl := h.lt
  unfold Buf at h ⊢
  rw [Below.heap_alloc _ _ _ hl]; exact h
theorem Buf.drewN {w : World} {g : Nat} {l : List Int} (h : Buf w g l) (n : Nat) : Buf (w.drewN n) g l := h
theorem Buf.drew {w : World} {g : Nat} {l : List Int} (h : Buf w g l) : Buf w.drew g l := h
theorem Buf.below {w w' : World} {g B : Nat} {l : List Int} (h : Buf w g l) (hb : Below B w w') (hg : g < B) : Buf w' g l := by
  unfold Buf at h ⊢
  rw [hb.block g hg]; exact h
theorem Buf.far {w : World} {g : Nat} {l : List Int} (h : Buf w g l) {a : Addr} (ha : a.block ≠ g) (v : Value) : Buf (w.setCell a v) g l := by
  unfold Buf at h ⊢
  rw [Below.heap_setCell _ _ _ _ (fun e => ha e.symm)]; exact h
theorem Buf.made (w : World) (n : Nat) : Buf (w.alloc (.cells (madeCells #[.int .u8 0] n) 5)) w.heap.size (List.replicate n 0) := by
  unfold Buf
  have e : madeCells #[.int .u8 0] n = (List.map (Value.int .u8) (List.replicate n 0)).toArray := by
    apply Array.toList_inj.1
    rw [toList_madeCells_one]
    simp
  rw [e]
  show (w.heap.push _)[w.heap.size]? = _
  simp
theorem Buf.congr {w : World} {g : Nat} {l l' : List Int} (h : Buf w g l) (e : l = l') : Buf w g l' := e ▸ h

/-- nothing but block g has turned (and new blocks) -/
structure Tch (g : Nat) (w w' : World) : Prop where
  os : w'.os = w.os
  tape : w'.tape = w.tape
  output : w'.output = w.output
  size : w.heap.size ≤ w'.heap.size
  block : ∀ k, k < w.heap.size → k ≠ g → w'.heap[k]? = w.heap[k]?
theorem Tch.refl (g : Nat) (w : World) : Tch g w w := ⟨rfl, rfl, rfl, Nat.le_refl _, fun _ _ _ => rfl⟩
theorem Tch.trans {g : Nat} {a b c : World} (h : Tch g a b) (k : Tch g b c) : Tch g a c :=
  ⟨k.os.trans h.os, k.tape.trans h.tape, k.output.trans h.output, Nat.le_trans h.size k.size, fun i hi hn => (k.block i (Nat.lt_of_lt_of_le hi h.size) hn).trans (h.block i hi hn)⟩
theorem Tch.set {g : Nat} {a w : World} (h : Tch g a w) (i : Nat) (v : Value) : Tch g a (w.setCell ⟨g, i, none⟩ v) :=
  h.trans ⟨rfl, rfl, rfl, by simp [World.setCell], fun k _ hk => Below.heap_setCell _ _ _ _ hk⟩
theorem Tch.alloc {g : Nat} {a w : World} (h : Tch g a w) (o : Obj) : Tch g a (w.alloc o) :=
  h.trans ⟨rfl, rfl, rfl, by simp, fun k hk _ => Below.heap_alloc _ _ _ hk⟩
theorem Tch.drewN {g : Nat} {a w : World} (h : Tch g a w) (n : Nat) : Tch g a (w.drewN n) := ⟨h.os, h.tape, h.output, h.size, h.block⟩
theorem Tch.below {g : Nat} {w w' : World} (h : Tch g w w') {B : Nat} (hB : B ≤ g) (hw : B ≤ w.heap.size) : Below B w w' :=
  ⟨h.os, h.tape, h.output, h.size, fun k hk => h.block k (by omega) (by omega)⟩
theorem Tch.of {g : Nat} {w w' : World} (h : Below w.heap.size w w') : Tch g w w' := ⟨h.os, h.tape, h.output, h.size, fun k hk _ => h.block k hk⟩
theorem Tch.cell {g : Nat} {w w' : World} (h : Tch g w w') {p : Addr} (hp : p.block < w.heap.size) (hn : p.block ≠ g) : w'.cell? p = w.cell? p := World.cell?_of_block (w := w) (h.block p.block hp hn)
theorem Tch.frozen {g : Nat} {w w' : World} (h : Tch g w w') {p : Addr} (hp : p.block < w.heap.size) (hn : p.block ≠ g) : w'.frozen? p = w.frozen? p := World.frozen?_of_block (w := w) (h.block p.block hp hn)
theorem Tch.buf {g k : Nat} {w w' : World} {l : List Int} (h : Tch g w w') (hb : Buf w k l) (hn : k ≠ g) : Buf w' k l := by
  have hl := hb.lt
  unfold Buf at hb ⊢
  rw [h.block k hl hn]; exact hb

/-- every element is a byte -/
def Byt (l : List Int) : Prop := ∀ x ∈ l, 0 ≤ x ∧ x ≤ 255
theorem Byt.set {l : List Int} (h : Byt l) (i : Nat) (v : Int) (hv : 0 ≤ v ∧ v ≤ 255) : Byt (l.set i v) := fun x hx => by
  rcases List.mem_or_eq_of_mem_set hx with h1 | h1
  · exact h x h1
  · subst h1; exact hv
theorem Byt.zeros (n : Nat) : Byt (List.replicate n 0) := fun x hx => by
  rw [List.mem_replicate] at hx; omega
theorem Byt.append {a b : List Int} (ha : Byt a) (hb : Byt b) : Byt (a ++ b) := fun x hx => by
  rcases List.mem_append.1 hx with h | h
  · exact ha x h
  · exact hb x h
/-- the text of the bytes l -/
def ofL (l : List Int) : ByteArray := ⟨(l.map fun x => UInt8.ofNat x.toNat).toArray⟩
theorem ofL_size (l : List Int) : (ofL l).size = l.length := by simp [ofL, ByteArray.size]
theorem ofL_nth (l : List Int) (hl : Byt l) (i : Nat) : nth (ofL l) i = l.getD i 0 := by
  unfold nth ofL
  by_cases hi : i < l.length
  · have hb := hl l[i] (List.getElem_mem hi)
    simp [List.getElem?_eq_getElem hi, List.getD_eq_getElem?_getD]
    omega
  · simp [List.getD_eq_getElem?_getD, List.getElem?_eq_none (by omega : l.length ≤ i)]
/-- the bytes of a text -/
def toL (s : ByteArray) : List Int := s.data.toList.map fun x => (x.toNat : Int)
theorem toL_len (s : ByteArray) : (toL s).length = s.size := by simp [toL]
theorem toL_byt (s : ByteArray) : Byt (toL s) := fun x hx => by
  simp only [toL, List.mem_map] at hx
  obtain ⟨y, _, rfl⟩ := hx
  have := y.toNat_lt
  omega
theorem toL_nth (s : ByteArray) (i : Nat) : (toL s).getD i 0 = nth s i := by
  unfold toL nth
  simp only [List.getD_eq_getElem?_getD, List.getElem?_map]
  cases s.data.toList[i]? <;> simp
theorem ofL_toL (s : ByteArray) : ofL (toL s) = s := by
  apply ByteArray.ext
  apply Array.toList_inj.1
  have e : ((fun x : Int => UInt8.ofNat x.toNat) ∘ fun x : UInt8 => (x.toNat : Int)) = id := funext fun x => by simp
  simp [ofL, toL, List.map_map, e]
theorem Buf.row {w : World} {g : Nat} {l : List Int} (h : Buf w g l) (hl : Byt l) : Row w g 0 (ofL l) := fun i hi => by
  rw [ofL_size] at hi
  rw [Nat.zero_add, h.cell i hi, ofL_nth l hl]
end Go.Proofs.YtclpnafiiobfhabGreatDoor

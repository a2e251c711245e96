import Derived.Test.YtclpnafiiobfhabGreatDoorPlain
import Derived.Lib.Split
import Derived.Lib.SplitLaws
import Derived.Lib.CutLaws
import Derived.Lib.SlicesS
import Derived.Lib.ItoaNum
import Derived.Lib.Join
namespace Go.Proofs.YtclpnafiiobfhabGreatDoor
open Go.RowKit
set_option linter.unusedVariables false
set_option linter.unusedSimpArgs false

/-- the text of these bytes -/
def ba (l : List UInt8) : ByteArray := ⟨l.toArray⟩
/-- the bytes of a text -/
def bl (s : ByteArray) : List UInt8 := s.data.toList
theorem ba_bl (s : ByteArray) : ba (bl s) = s := by simp [ba, bl]
theorem bl_ba (l : List UInt8) : bl (ba l) = l := by simp [ba, bl]
theorem ba_size (l : List UInt8) : (ba l).size = l.length := by simp [ba, ByteArray.size]
theorem bl_len (s : ByteArray) : (bl s).length = s.size := Array.length_toList
theorem ba_inj {a b : List UInt8} (h : ba a = ba b) : a = b := by rw [← bl_ba a, h, bl_ba]
theorem bl_inj {a b : ByteArray} (h : bl a = bl b) : a = b := by rw [← ba_bl a, h, ba_bl]

/-- a text cut at each byte c -/
def parts (c : UInt8) : List UInt8 → List (List UInt8)
  | [] => [[]]
  | x :: l => if x = c then [] :: parts c l else (x :: (parts c l).headD []) :: (parts c l).tail
theorem parts_cons (c : UInt8) (l : List UInt8) : ∃ p r, parts c l = p :: r := by
  cases l with
  | nil => exact ⟨_, _, rfl⟩
  | cons x l => unfold parts; split <;> exact ⟨_, _, rfl⟩
theorem parts_none (c : UInt8) : ∀ (p : List UInt8), (∀ x ∈ p, x ≠ c) → parts c p = [p]
  | [], _ => rfl
  | x :: p, h => by
    have h1 := parts_none c p (fun y hy => h y (List.mem_cons_of_mem _ hy))
    rw [parts, if_neg (h x (List.mem_cons_self ..)), h1]; rfl
theorem parts_hit (c : UInt8) (r : List UInt8) : ∀ (p : List UInt8), (∀ x ∈ p, x ≠ c) → parts c (p ++ c :: r) = p :: parts c r
  | [], _ => by rw [List.nil_append, parts, if_pos rfl]
  | x :: p, h => by
    have h1 := parts_hit c r p (fun y hy => h y (List.mem_cons_of_mem _ hy))
    rw [List.cons_append, parts, if_neg (h x (List.mem_cons_self ..)), h1]; rfl
theorem parts_len (c : UInt8) : ∀ (l : List UInt8), (parts c l).length ≤ l.length + 1
  | [] => Nat.le_refl _
  | x :: l => by
    have h := parts_len c l
    unfold parts
    split
    · simp only [List.length_cons]; omega
    · simp only [List.length_cons, List.length_tail]; omega
/-- no byte c in a piece; a piece is no longer than the text -/
theorem parts_mem (c : UInt8) : ∀ (l p : List UInt8), p ∈ parts c l → (∀ x ∈ p, x ≠ c) ∧ p.length ≤ l.length
  | [], p, h => by
    rw [parts, List.mem_singleton] at h
    subst h
    exact ⟨fun x hx => by simp at hx, Nat.le_refl _⟩
  | x :: l, p, h => by
    unfold parts at h
    split at h
    · rcases List.mem_cons.1 h with rfl | h
      · exact ⟨fun x hx => by simp at hx, Nat.zero_le _⟩
      · have := parts_mem c l p h
        exact ⟨this.1, by simp only [List.length_cons]; omega⟩
    · rename_i hx
      obtain ⟨q, r, e⟩ := parts_cons c l
      have hq := parts_mem c l q (by rw [e]; exact List.mem_cons_self ..)
      rcases List.mem_cons.1 h with rfl | h
      · rw [e, List.headD_cons]
        refine ⟨fun y hy => ?_, by simp only [List.length_cons]; omega⟩
        rcases List.mem_cons.1 hy with rfl | hy
        · exact hx
        · exact hq.1 y hy
      · have hm := parts_mem c l p (List.mem_of_mem_tail h)
        exact ⟨hm.1, by simp only [List.length_cons]; omega⟩
open Go.Lib in
theorem index_one_none (c : UInt8) (l : List UInt8) (h : index l [c] = -1) : ∀ x ∈ l, x ≠ c := by
  rcases index_spec l [c] with ⟨_, h2⟩ | ⟨i, h1, _⟩
  · intro x hx e
    obtain ⟨j, hj, rfl⟩ := List.getElem_of_mem hx
    have := h2 j (Nat.le_of_lt hj)
    rw [occAt, List.drop_eq_getElem_cons hj, e] at this
    simp at this
  · omega
open Go.Lib in
theorem index_one_some (c : UInt8) (l : List UInt8) (i : Nat) (h : index l [c] = i) : l = l.take i ++ c :: l.drop (i + 1) ∧ (∀ x ∈ l.take i, x ≠ c) ∧ i < l.length := by
  rcases index_spec l [c] with ⟨h1, _⟩ | ⟨j, h1, h2, h3, h4⟩
  · omega
  · have e : i = j := by omega
    subst e
    have hlt : i < l.length := by
      rcases Nat.lt_or_ge i l.length with g | g
      · exact g
      · rw [occAt, List.drop_eq_nil_of_le g] at h3
        simp at h3
    refine ⟨?_, fun x hx e => ?_, hlt⟩
    · have hc : l[i] = c := by
        rw [occAt, List.drop_eq_getElem_cons hlt, List.isPrefixOf_cons_cons, Bool.and_eq_true] at h3
        exact (beq_iff_eq.1 h3.1).symm
      conv => lhs; rw [← List.take_append_drop i l]
      rw [List.drop_eq_getElem_cons hlt, hc]
    · obtain ⟨j, hj, rfl⟩ := List.getElem_of_mem hx
      have hj' : j < i := by simp at hj; omega
      have := h4 j hj'
      rw [List.getElem_take] at e
      rw [occAt, List.drop_eq_getElem_cons (by omega : j < l.length), e] at this
      simp at this
open Go.Lib in
theorem splitK_parts (c : UInt8) : ∀ (fuel : Nat) (l : List UInt8), l.length < fuel → splitK [c] 0 (countFrom [c] fuel l) l = parts c l
  | 0, l, h => by omega
  | fuel + 1, l, h => by
    rw [countFrom]
    by_cases hi : index l [c] = -1
    · rw [if_pos (by rw [hi]; rfl), splitK, parts_none c l (index_one_none c l hi)]
    · rw [if_neg (by simpa using hi)]
      rcases index_spec l [c] with ⟨h1, _⟩ | ⟨i, h1, h2, h3, h4⟩
      · exact absurd h1 hi
      · obtain ⟨e, hn, hlt⟩ := index_one_some c l i h1
        rw [Nat.add_comm 1, splitK, if_neg (by simpa using hi), h1, Int.toNat_natCast, Nat.add_zero]
        have ih := splitK_parts c fuel (l.drop (i + 1)) (by rw [List.length_drop]; omega)
        show _ :: splitK [c] 0 _ (l.drop (i + [c].length)) = _
        rw [show [c].length = 1 from rfl, ih]
        conv => rhs; rw [e, parts_hit c _ _ hn]
/-- strings.Split at one byte -/
theorem splitB_parts (c : UInt8) (s : ByteArray) : Lib.splitB (ba [c]) 0 (Lib.countB s (ba [c])) s = (parts c (bl s)).map ba := by
  have h1 := Lib.splitB_data (ba [c]) 0 (Lib.countB s (ba [c])) s
  have h2 : Lib.splitK [c] 0 (Lib.countB s (ba [c])) (bl s) = parts c (bl s) := splitK_parts c _ _ (by simp)
  have h3 : (Lib.splitB (ba [c]) 0 (Lib.countB s (ba [c])) s).map bl = parts c (bl s) := by rw [← h2]; exact h1
  have h4 := congrArg (List.map ba) h3
  rw [List.map_map] at h4
  have e : ba ∘ bl = id := funext ba_bl
  rw [e, List.map_id] at h4
  exact h4
theorem countB_parts (c : UInt8) (s : ByteArray) : Lib.countB s (ba [c]) + 1 = (parts c (bl s)).length := by
  have := Lib.splitB_all (ba [c]) (by simp [ba_size]) 0 _ s rfl
  rw [splitB_parts, List.length_map] at this
  exact this.symm
end Go.Proofs.YtclpnafiiobfhabGreatDoor
namespace Go.Proofs.YtclpnafiiobfhabGreatDoor
open Go.RowKit
set_option linter.unusedVariables false
set_option linter.unusedSimpArgs false

def digit (x : UInt8) : Bool := decide (48 ≤ x.toNat) && decide (x.toNat ≤ 57)
/-- the number that digits say -/
def val (l : List UInt8) : Nat := l.foldl (fun v x => 10 * v + (x.toNat - 48)) 0
def numOf (s : ByteArray) : Option Nat := if s.size ≠ 0 ∧ (bl s).all digit = true then some (val (bl s)) else none
def nums : List ByteArray → Option (List Nat)
  | [] => some []
  | p :: r => (numOf p).bind fun v => (nums r).map fun vs => v :: vs
def cutB (c : UInt8) (s : ByteArray) : List ByteArray := (parts c (bl s)).map ba
def pieces (s : ByteArray) : List ByteArray := (cutB 32 s).filter fun p => p.size != 0
/-- which of the words; -1: none -/
abbrev plc (ws : List ByteArray) (s : ByteArray) : Int := Lib.idxOfS ws s
def vws : List ByteArray := [⟨#[100, 114, 111, 112]⟩, ⟨#[97, 99, 99, 101, 112, 116]⟩, ⟨#[114, 101, 106, 101, 99, 116]⟩]
def nws : List ByteArray := [⟨#[105, 110]⟩, ⟨#[102, 114, 111, 109]⟩, ⟨#[116, 111]⟩, ⟨#[112, 114, 111, 116, 111]⟩, ⟨#[115, 112, 111, 114, 116]⟩, ⟨#[100, 112, 111, 114, 116]⟩, ⟨#[102, 108, 97, 103, 115]⟩, ⟨#[115, 116, 97, 116, 101]⟩]
def sws : List ByteArray := [⟨#[110, 101, 119]⟩, ⟨#[101, 115, 116, 97, 98, 108, 105, 115, 104, 101, 100]⟩, ⟨#[105, 110, 118, 97, 108, 105, 100]⟩]
def pws : List ByteArray := [⟨#[105, 99, 109, 112]⟩, ⟨#[116, 99, 112]⟩, ⟨#[117, 100, 112]⟩]
def polw : ByteArray := ⟨#[112, 111, 108, 105, 99, 121]⟩

def inVal (p : ByteArray) : Nat × List Nat := match numOf p with
  | none => (3, [])
  | some n => if n ≤ 255 then (0, [n]) else (5, [])
/-- four numbers and how many bits -/
def netOf (q : List Nat) (n : Nat) : Nat × List Nat := match q with
  | [a, b, c, d] => if a ≤ 255 ∧ b ≤ 255 ∧ c ≤ 255 ∧ d ≤ 255 ∧ n ≤ 32 ∧ (((a * 256 + b) * 256 + c) * 256 + d) % 2 ^ (32 - n) = 0 then (0, [((a * 256 + b) * 256 + c) * 256 + d, n]) else (5, [])
  | _ => (3, [])
def netVal (p : ByteArray) : Nat × List Nat := match cutB 47 p with
  | [a, b] => match nums (cutB 46 a), numOf b with
    | some q, some n => netOf q n
    | _, _ => (3, [])
  | _ => (3, [])
def protoVal (p : ByteArray) : Nat × List Nat := if plc pws p < 0 then (3, []) else (0, [[1, 6, 17].getD (plc pws p).toNat 0])
def portVal (p : ByteArray) : Nat × List Nat := match nums (cutB 45 p) with
  | some [a] => if a ≤ 65535 then (0, [a, a]) else (5, [])
  | some [a, b] => if b ≤ 65535 ∧ a ≤ b then (0, [a, b]) else (5, [])
  | _ => (3, [])
def flagVal (p : ByteArray) : Nat × List Nat := match nums (cutB 47 p) with
  | some [m, s] => if m ≤ 63 ∧ s &&& m = s then (0, [m, s]) else (5, [])
  | _ => (3, [])
/-- the states, one by one: which of them stand, and whether one stood twice -/
def stateIn : List ByteArray → List Bool → Bool → List Bool × Bool
  | [], l, t => (l, t)
  | p :: r, l, t => stateIn r (l.set (plc sws p).toNat true) (t || l.getD (plc sws p).toNat false)
def bn (b : Bool) : Nat := if b then 1 else 0
def stateVal (p : ByteArray) : Nat × List Nat :=
  if (cutB 44 p).any (fun q => decide (plc sws q < 0)) then (3, [])
  else if (stateIn (cutB 44 p) [false, false, false] false).2 then (5, [])
  else (0, (stateIn (cutB 44 p) [false, false, false] false).1.map bn)
/-- what stands behind the condition's name: the kind of its fault (0: none), and what it says -/
def condVal (c : Nat) (p : ByteArray) : Nat × List Nat :=
  if c = 0 then inVal p else if c = 1 ∨ c = 2 then netVal p else if c = 3 then protoVal p else if c = 4 ∨ c = 5 then portVal p else if c = 6 then flagVal p else stateVal p
abbrev Cs := List (Option (List Nat))
def none8 : Cs := [none, none, none, none, none, none, none, none]
def conds : List ByteArray → Cs → Nat × Cs
  | [], cs => (0, cs)
  | [_], cs => (3, cs)
  | n :: p :: r, cs =>
    if plc nws n < 0 then (3, cs)
    else if (cs.getD (plc nws n).toNat none).isSome then (6, cs)
    else if (condVal (plc nws n).toNat p).1 ≠ 0 then ((condVal (plc nws n).toNat p).1, cs)
    else conds r (cs.set (plc nws n).toNat (some (condVal (plc nws n).toNat p).2))
def protoOf (cs : Cs) : Nat := ((cs.getD 3 none).getD []).getD 0 0
def missing (cs : Cs) : Bool :=
  (((cs.getD 4 none).isSome || (cs.getD 5 none).isSome) && !(protoOf cs == 6 || protoOf cs == 17)) || ((cs.getD 6 none).isSome && !(protoOf cs == 6))
structure Rl where
  v : Nat
  cs : Cs
def ruleOf (ps : List ByteArray) (ahead : Nat) : Nat × Rl :=
  if plc vws (ps.getD 0 ByteArray.empty) < 0 then (3, ⟨0, none8⟩)
  else if 48 ≤ ahead then (4, ⟨0, none8⟩)
  else if (conds ps.tail none8).1 ≠ 0 then ((conds ps.tail none8).1, ⟨0, none8⟩)
  else if missing (conds ps.tail none8).2 then (7, ⟨0, none8⟩)
  else (0, ⟨(plc vws (ps.getD 0 ByteArray.empty)).toNat, (conds ps.tail none8).2⟩)
structure Bk where
  has : Bool
  pol : Nat
  rs : List Rl
def bk0 : Bk := ⟨false, 0, []⟩
def policyOf (ps : List ByteArray) : Int := if ps.length = 2 ∧ ps.getD 0 ByteArray.empty = polw then plc vws (ps.getD 1 ByteArray.empty) else -1
/-- a line that has pieces -/
def lineOf (b : Bk) (ps : List ByteArray) : Nat × Bk :=
  if b.has then (if (ruleOf ps b.rs.length).1 = 0 then (0, ⟨true, b.pol, b.rs ++ [(ruleOf ps b.rs.length).2]⟩) else ((ruleOf ps b.rs.length).1, bk0))
  else if policyOf ps < 0 then (3, bk0) else (0, ⟨true, (policyOf ps).toNat, []⟩)
/-- the lines behind n others: the kind of the fault (0: none), its line, and what they say -/
def linesOf : List ByteArray → Nat → Bk → Nat × Nat × Bk
  | [], _, b => if b.has then (0, 0, b) else (3, 0, bk0)
  | l :: r, n, b =>
    if pieces l = [] then linesOf r (n + 1) b
    else if (lineOf b (pieces l)).1 ≠ 0 then ((lineOf b (pieces l)).1, n + 1, bk0)
    else linesOf r (n + 1) (lineOf b (pieces l)).2
def readT (s : ByteArray) : Nat × Nat × Bk := if 2000 < s.size then (2, 0, bk0) else linesOf (cutB 10 s) 0 bk0
end Go.Proofs.YtclpnafiiobfhabGreatDoor
namespace Go.Proofs.YtclpnafiiobfhabGreatDoor
open Go.RowKit
set_option linter.unusedVariables false
set_option linter.unusedSimpArgs false

theorem ext_ba (s : ByteArray) (a b : Nat) : s.extract a b = ba (((bl s).drop a).take (b - a)) := by
  apply bl_inj
  rw [bl_ba]
  unfold bl
  rw [Lib.extract_data]
theorem nth_bl (s : ByteArray) (i : Nat) (h : i < s.size) : ∃ x : UInt8, (bl s)[i]? = some x ∧ nth s i = (x.toNat : Int) := by
  have h' : i < (bl s).length := by rw [bl_len]; exact h
  refine ⟨(bl s)[i], List.getElem?_eq_getElem h', ?_⟩
  unfold nth
  rw [List.getD_eq_getElem?_getD]
  show (((bl s)[i]?.getD 0).toNat : Int) = _
  rw [List.getElem?_eq_getElem h']; rfl
/-- a cut at work: what stands so far, and from where the next piece goes -/
structure Mid (s : ByteArray) (c : UInt8) (f i : Nat) (done : List ByteArray) : Prop where
  le : f ≤ i
  top : i ≤ s.size
  free : ∀ j, f ≤ j → j < i → nth s j ≠ (c.toNat : Int)
  all : cutB c s = done ++ cutB c (ba ((bl s).drop f))
theorem Mid.start (s : ByteArray) (c : UInt8) : Mid s c 0 0 [] := ⟨Nat.le_refl _, Nat.zero_le _, fun j _ h => by omega, by rw [List.drop_zero, ba_bl, List.nil_append]⟩
theorem Mid.skip {s : ByteArray} {c : UInt8} {f i : Nat} {done : List ByteArray} (h : Mid s c f i done) (hi : i < s.size) (hn : nth s i ≠ (c.toNat : Int)) : Mid s c f (i + 1) done :=
  ⟨by have := h.le; omega, hi, fun j h1 h2 => by
    by_cases e : j = i
    · subst e; exact hn
    · exact h.free j h1 (by omega), h.all⟩
theorem Mid.free' {s : ByteArray} {c : UInt8} {f i : Nat} {done : List ByteArray} (h : Mid s c f i done) : ∀ x ∈ ((bl s).drop f).take (i - f), x ≠ c := by
  intro x hx e
  obtain ⟨j, hj, rfl⟩ := List.getElem_of_mem hx
  rw [List.length_take, List.length_drop, bl_len] at hj
  rw [List.getElem_take, List.getElem_drop] at e
  have hs : f + j < s.size := by omega
  obtain ⟨y, hy, hn⟩ := nth_bl s (f + j) hs
  rw [List.getElem?_eq_getElem (by rw [bl_len]; exact hs)] at hy
  have := h.free (f + j) (by omega) (by omega)
  rw [hn] at this
  injection hy with hy
  rw [← hy, e] at this
  exact this rfl
theorem Mid.hit {s : ByteArray} {c : UInt8} {f i : Nat} {done : List ByteArray} (h : Mid s c f i done) (hi : i < s.size) (hn : nth s i = (c.toNat : Int)) : Mid s c (i + 1) (i + 1) (done ++ [s.extract f i]) := by
  refine ⟨Nat.le_refl _, hi, fun j h1 h2 => by omega, ?_⟩
  rw [h.all, List.append_assoc]
  congr 1
  obtain ⟨y, hy, hn'⟩ := nth_bl s i hi
  have hyc : y = c := by
    apply UInt8.toNat_inj.1
    omega
  subst hyc
  have hlt : i < (bl s).length := by rw [bl_len]; exact hi
  have hle := h.le
  have e : (bl s).drop f = ((bl s).drop f).take (i - f) ++ y :: (bl s).drop (i + 1) := by
    conv => lhs; rw [← List.take_append_drop (i - f) ((bl s).drop f)]
    rw [List.drop_drop, show f + (i - f) = i by omega, List.drop_eq_getElem_cons hlt]
    rw [List.getElem?_eq_getElem hlt] at hy
    injection hy with hy
    rw [hy]
  unfold cutB
  rw [bl_ba, bl_ba]
  conv => lhs; rw [e, parts_hit y _ _ h.free']
  rw [List.map_cons, ext_ba]; rfl
theorem Mid.done {s : ByteArray} {c : UInt8} {f : Nat} {done : List ByteArray} (h : Mid s c f s.size done) : cutB c s = done ++ [s.extract f s.size] := by
  rw [h.all]
  congr 1
  have e : ((bl s).drop f).take (s.size - f) = (bl s).drop f := by
    apply List.take_of_length_le
    rw [List.length_drop, bl_len]
    exact Nat.le_refl _
  have hf := h.free'
  rw [e] at hf
  unfold cutB
  rw [bl_ba, parts_none c _ hf, ext_ba, e]; rfl

/-- the number that the first i digits say -/
def valTo (s : ByteArray) (i : Nat) : Nat := val ((bl s).take i)
def Digs (s : ByteArray) (i : Nat) : Prop := ∀ j, j < i → 48 ≤ nth s j ∧ nth s j ≤ 57
theorem valTo_zero (s : ByteArray) : valTo s 0 = 0 := rfl
theorem valTo_succ (s : ByteArray) (i : Nat) (h : i < s.size) : ((valTo s (i + 1) : Nat) : Int) = 10 * (valTo s i : Int) + ((nth s i - 48).toNat : Int) := by
  obtain ⟨x, hx, hn⟩ := nth_bl s i h
  unfold valTo val
  rw [List.take_add_one, hx, Option.toList_some, List.foldl_append, List.foldl_cons, List.foldl_nil, hn]
  omega
theorem Digs.succ {s : ByteArray} {i : Nat} (h : Digs s i) (hd : 48 ≤ nth s i ∧ nth s i ≤ 57) : Digs s (i + 1) := fun j hj => by
  by_cases e : j = i
  · subst e; exact hd
  · exact h j (by omega)
theorem numOf_all (s : ByteArray) (h0 : s.size ≠ 0) (h : Digs s s.size) : numOf s = some (valTo s s.size) := by
  have ha : (bl s).all digit = true := by
    rw [List.all_eq_true]
    intro x hx
    obtain ⟨j, hj, rfl⟩ := List.getElem_of_mem hx
    have hj' : j < s.size := by rw [bl_len] at hj; exact hj
    obtain ⟨y, hy, hn⟩ := nth_bl s j hj'
    rw [List.getElem?_eq_getElem hj] at hy
    injection hy with hy
    have := h j hj'
    rw [hn] at this
    unfold digit
    rw [hy, Bool.and_eq_true, decide_eq_true_eq, decide_eq_true_eq]
    omega
  unfold numOf
  rw [if_pos ⟨h0, ha⟩]
  unfold valTo
  rw [List.take_of_length_le (by rw [bl_len]; exact Nat.le_refl _)]
theorem numOf_bad (s : ByteArray) (i : Nat) (hi : i < s.size) (h : ¬ (48 ≤ nth s i ∧ nth s i ≤ 57)) : numOf s = none := by
  unfold numOf
  rw [if_neg]
  rintro ⟨_, ha⟩
  apply h
  obtain ⟨y, hy, hn⟩ := nth_bl s i hi
  have hm : y ∈ bl s := List.mem_of_getElem? hy
  have := List.all_eq_true.1 ha y hm
  unfold digit at this
  rw [Bool.and_eq_true, decide_eq_true_eq, decide_eq_true_eq] at this
  rw [hn]
  omega
theorem numOf_empty (s : ByteArray) (h : s.size = 0) : numOf s = none := by
  unfold numOf
  rw [if_neg]
  rintro ⟨h0, _⟩
  exact h0 h
theorem numOf_cases (s : ByteArray) : (s.size ≠ 0 ∧ Digs s s.size ∧ numOf s = some (valTo s s.size)) ∨ (numOf s = none ∧ (s.size = 0 ∨ ∃ i, i < s.size ∧ Digs s i ∧ ¬ (48 ≤ nth s i ∧ nth s i ≤ 57))) := by
  by_cases h0 : s.size = 0
  · exact Or.inr ⟨numOf_empty s h0, Or.inl h0⟩
  · have key : ∀ k, k ≤ s.size → Digs s k ∨ ∃ i, i < s.size ∧ Digs s i ∧ ¬ (48 ≤ nth s i ∧ nth s i ≤ 57) := by
      intro k
      induction k with
      | zero => intro _; exact Or.inl (fun j hj => by omega)
      | succ k ih =>
        intro hk
        rcases ih (by omega) with h | h
        · by_cases hd : 48 ≤ nth s k ∧ nth s k ≤ 57
          · exact Or.inl (h.succ hd)
          · exact Or.inr ⟨k, by omega, h, hd⟩
        · exact Or.inr h
    rcases key s.size (Nat.le_refl _) with h | ⟨i, h1, h2, h3⟩
    · exact Or.inl ⟨h0, h, numOf_all s h0 h⟩
    · exact Or.inr ⟨numOf_bad s i h1 h3, Or.inr ⟨i, h1, h2, h3⟩⟩
theorem nums_fine {p : ByteArray} {v : Nat} (r : List ByteArray) (h : numOf p = some v) : nums (p :: r) = (nums r).map (fun vs => v :: vs) := by rw [nums, h]; rfl
theorem nums_bad {p : ByteArray} (r : List ByteArray) (h : numOf p = none) : nums (p :: r) = none := by rw [nums, h]; rfl
theorem nums_len : ∀ (l : List ByteArray) (q : List Nat), nums l = some q → q.length = l.length
  | [], q, h => by cases h; rfl
  | p :: r, q, h => by
    rw [nums] at h
    cases hp : numOf p with
    | none => rw [hp] at h; cases h
    | some v =>
      rw [hp] at h
      cases hr : nums r with
      | none => rw [hr] at h; cases h
      | some vs =>
        rw [hr] at h
        injection h with h
        subst h
        simp [nums_len r vs hr]
theorem cutB_mem (c : UInt8) (s p : ByteArray) (h : p ∈ cutB c s) : p.size ≤ s.size := by
  unfold cutB at h
  rw [List.mem_map] at h
  obtain ⟨q, hq, rfl⟩ := h
  rw [ba_size, ← bl_len]
  exact (parts_mem c _ _ hq).2
theorem cutB_len (c : UInt8) (s : ByteArray) : (cutB c s).length ≤ s.size + 1 := by
  unfold cutB
  rw [List.length_map, ← bl_len]
  exact parts_len _ _
theorem cutB_pos (c : UInt8) (s : ByteArray) : 0 < (cutB c s).length := by
  unfold cutB
  obtain ⟨p, r, e⟩ := parts_cons c (bl s)
  rw [e]; simp
theorem pieces_mem (s p : ByteArray) (h : p ∈ pieces s) : p.size ≤ s.size := cutB_mem _ _ _ (List.mem_filter.1 h).1
theorem pieces_len (s : ByteArray) : (pieces s).length ≤ s.size + 1 := Nat.le_trans (List.length_filter_le _ _) (cutB_len _ _)
/-- a word's place is one of the list's -/
theorem plc_lt (ws : List ByteArray) (s : ByteArray) : plc ws s < ws.length := by
  have key : ∀ (l : List ByteArray) (i : Nat), Lib.idxFromS l s i < ((i + l.length : Nat) : Int) ∨ Lib.idxFromS l s i = -1 := by
    intro l
    induction l with
    | nil => intro i; exact Or.inr rfl
    | cons z l ih =>
      intro i
      unfold Lib.idxFromS
      split
      · left; simp only [List.length_cons]; omega
      · rcases ih (i + 1) with h | h
        · left; simp only [List.length_cons]; omega
        · exact Or.inr h
  show Lib.idxFromS ws s 0 < _
  rcases key ws 0 with h | h
  · simpa using h
  · show Lib.idxFromS ws s 0 < _
    rw [h]; omega
end Go.Proofs.YtclpnafiiobfhabGreatDoor
namespace Go.Proofs.YtclpnafiiobfhabGreatDoor
open Go.RowKit
set_option linter.unusedVariables false
set_option linter.unusedSimpArgs false

def dec (n : Nat) : List UInt8 := Lib.decDigits n
theorem dec_small {n : Nat} (h : n < 10) : dec n = [UInt8.ofNat (48 + n)] := by unfold dec; rw [Lib.decDigits, dif_pos h]
theorem dec_big {n : Nat} (h : ¬ n < 10) : dec n = dec (n / 10) ++ [UInt8.ofNat (48 + n % 10)] := by unfold dec; rw [Lib.decDigits, dif_neg h]
def quadL (a n : Nat) : List UInt8 := dec (a / 16777216) ++ [46] ++ dec (a / 65536 % 256) ++ [46] ++ dec (a / 256 % 256) ++ [46] ++ dec (a % 256) ++ [47] ++ dec n
/-- the words of the states that stand, with commas between -/
def stateL (v : List Nat) : List UInt8 := Lib.join (((List.range 3).filter fun i => v.getD i 0 == 1).map fun i => bl (sws.getD i ByteArray.empty)) [44]
/-- what stands behind the condition's name, in the one way -/
def shownL (c : Nat) (v : List Nat) : List UInt8 :=
  if c = 0 then dec (v.getD 0 0)
  else if c = 1 ∨ c = 2 then quadL (v.getD 0 0) (v.getD 1 0)
  else if c = 3 then (if v.getD 0 0 = 6 then [116, 99, 112] else if v.getD 0 0 = 17 then [117, 100, 112] else [105, 99, 109, 112])
  else if c = 4 ∨ c = 5 then (if v.getD 0 0 = v.getD 1 0 then dec (v.getD 0 0) else dec (v.getD 0 0) ++ [45] ++ dec (v.getD 1 0))
  else if c = 6 then dec (v.getD 0 0) ++ [47] ++ dec (v.getD 1 0)
  else stateL v
def condText (cs : Cs) (c : Nat) : List UInt8 := match cs.getD c none with
  | none => []
  | some v => [32] ++ bl (nws.getD c ByteArray.empty) ++ [32] ++ shownL c v
def condsTo (cs : Cs) : Nat → List UInt8
  | 0 => []
  | c + 1 => condsTo cs c ++ condText cs c
def ruleText (r : Rl) : List UInt8 := bl (vws.getD r.v ByteArray.empty) ++ condsTo r.cs 8 ++ [10]
def headText (p : Nat) : List UInt8 := bl polw ++ [32] ++ bl (vws.getD p ByteArray.empty) ++ [10]
def rulesText : List Rl → List UInt8
  | [] => []
  | r :: l => ruleText r ++ rulesText l
def textOf (b : Bk) : List UInt8 := headText b.pol ++ rulesText b.rs
theorem rulesText_snoc (l : List Rl) (r : Rl) : rulesText (l ++ [r]) = rulesText l ++ ruleText r := by
  induction l with
  | nil => simp [rulesText]
  | cons a l ih => simp [rulesText, ih]
/-- what a condition may say -/
def Good (c : Nat) (v : List Nat) : Prop :=
  if c = 0 then ∃ n, v = [n] ∧ n ≤ 255
  else if c = 1 ∨ c = 2 then ∃ a n, v = [a, n] ∧ a < 4294967296 ∧ n ≤ 32 ∧ a % 2 ^ (32 - n) = 0
  else if c = 3 then v = [1] ∨ v = [6] ∨ v = [17]
  else if c = 4 ∨ c = 5 then ∃ a b, v = [a, b] ∧ a ≤ b ∧ b ≤ 65535
  else if c = 6 then ∃ m s, v = [m, s] ∧ m ≤ 63 ∧ s &&& m = s
  else ∃ x y z : Bool, v = [bn x, bn y, bn z]
theorem stateIn_len : ∀ (l : List ByteArray) (b : List Bool) (t : Bool), (stateIn l b t).1.length = b.length
  | [], _, _ => rfl
  | p :: r, b, t => by rw [stateIn, stateIn_len r]; simp
theorem condVal_good (c : Nat) (p : ByteArray) (h : (condVal c p).1 = 0) : Good c (condVal c p).2 := by
  unfold condVal at h ⊢
  unfold Good
  by_cases h0 : c = 0
  · rw [if_pos h0] at h ⊢
    rw [if_pos h0]
    unfold inVal at h ⊢
    cases hn : numOf p with
    | none => rw [hn] at h; cases h
    | some n =>
      rw [hn] at h
      simp only at h ⊢
      split at h
      · rename_i hle
        rw [if_pos hle]
        exact ⟨n, rfl, hle⟩
      · cases h
  rw [if_neg h0] at h ⊢
  rw [if_neg h0]
  by_cases h1 : c = 1 ∨ c = 2
  · rw [if_pos h1] at h ⊢
    rw [if_pos h1]
    unfold netVal at h ⊢
    split at h
    · rename_i a b e
      split at h
      · rename_i q n e1 e2
        unfold netOf at h ⊢
        split at h
        · rename_i x y z u
          split at h
          · rename_i hg
            rw [if_pos hg]
            exact ⟨_, n, rfl, by omega, hg.2.2.2.2.1, hg.2.2.2.2.2⟩
          · cases h
        · cases h
      · cases h
    · cases h
  rw [if_neg h1] at h ⊢
  rw [if_neg h1]
  by_cases h3 : c = 3
  · rw [if_pos h3] at h ⊢
    rw [if_pos h3]
    unfold protoVal at h ⊢
    split at h
    · cases h
    · rename_i hp
      rw [if_neg hp]
      have hlt := plc_lt pws p
      have h3 : (plc pws p).toNat = 0 ∨ (plc pws p).toNat = 1 ∨ (plc pws p).toNat = 2 := by
        have : pws.length = 3 := rfl
        omega
      rcases h3 with e | e | e <;> rw [e] <;> simp
  rw [if_neg h3] at h ⊢
  rw [if_neg h3]
  by_cases h4 : c = 4 ∨ c = 5
  · rw [if_pos h4] at h ⊢
    rw [if_pos h4]
    unfold portVal at h ⊢
    split at h
    · rename_i a e
      split at h
      · rename_i hg
        rw [if_pos hg]
        exact ⟨a, a, rfl, Nat.le_refl _, hg⟩
      · cases h
    · rename_i a b e
      split at h
      · rename_i hg
        rw [if_pos hg]
        exact ⟨a, b, rfl, hg.2, hg.1⟩
      · cases h
    · cases h
  rw [if_neg h4] at h ⊢
  rw [if_neg h4]
  by_cases h6 : c = 6
  · rw [if_pos h6] at h ⊢
    rw [if_pos h6]
    unfold flagVal at h ⊢
    split at h
    · rename_i m s e
      split at h
      · rename_i hg
        rw [if_pos hg]
        exact ⟨m, s, rfl, hg.1, hg.2⟩
      · cases h
    · cases h
  rw [if_neg h6] at h ⊢
  rw [if_neg h6]
  unfold stateVal at h ⊢
  split at h
  · cases h
  · rename_i ha
    split at h
    · cases h
    · rename_i hb
      rw [if_neg ha, if_neg hb]
      have hl := stateIn_len (cutB 44 p) [false, false, false] false
      generalize (stateIn (cutB 44 p) [false, false, false] false).1 = l at hl ⊢
      match l, hl with
      | [x, y, z], _ => exact ⟨x, y, z, rfl⟩
/-- every condition that stands is a good one -/
def GoodCs (cs : Cs) : Prop := cs.length = 8 ∧ ∀ c v, cs.getD c none = some v → Good c v
theorem good_none : GoodCs none8 := ⟨rfl, fun c v h => by
  have : none8.getD c none = none := by
    unfold none8
    rcases c with _ | _ | _ | _ | _ | _ | _ | _ | c <;> rfl
  rw [this] at h; cases h⟩
theorem GoodCs.set {cs : Cs} (h : GoodCs cs) (c : Nat) (v : List Nat) (hv : Good c v) : GoodCs (cs.set c (some v)) := by
  refine ⟨by rw [List.length_set]; exact h.1, fun d u hd => ?_⟩
  by_cases e : c = d
  · subst e
    rw [List.getD_eq_getElem?_getD, List.getElem?_set] at hd
    simp only [if_true] at hd
    split at hd
    · injection hd with hd; subst hd; exact hv
    · cases hd
  · rw [List.getD_eq_getElem?_getD, List.getElem?_set_ne e, ← List.getD_eq_getElem?_getD] at hd
    exact h.2 d u hd
theorem conds_good : ∀ (l : List ByteArray) (cs : Cs), GoodCs cs → (conds l cs).1 = 0 → GoodCs (conds l cs).2
  | [], cs, h, _ => h
  | [_], cs, h, e => by cases e
  | n :: p :: r, cs, h, e => by
    rw [conds] at e ⊢
    by_cases h1 : plc nws n < 0
    · rw [if_pos h1] at e; cases e
    rw [if_neg h1] at e ⊢
    by_cases h2 : (cs.getD (plc nws n).toNat none).isSome = true
    · rw [if_pos h2] at e; cases e
    rw [if_neg h2] at e ⊢
    by_cases h3 : (condVal (plc nws n).toNat p).1 ≠ 0
    · rw [if_pos h3] at e; exact absurd e h3
    rw [if_neg h3] at e ⊢
    exact conds_good r _ (h.set _ _ (condVal_good _ _ (by omega))) e
structure GoodR (r : Rl) : Prop where
  v : r.v ≤ 2
  cs : GoodCs r.cs
  all : missing r.cs = false
theorem ruleOf_good (ps : List ByteArray) (n : Nat) (h : (ruleOf ps n).1 = 0) : GoodR (ruleOf ps n).2 ∧ n < 48 := by
  unfold ruleOf at h ⊢
  by_cases h1 : plc vws (ps.getD 0 ByteArray.empty) < 0
  · rw [if_pos h1] at h; cases h
  rw [if_neg h1] at h ⊢
  by_cases h2 : 48 ≤ n
  · rw [if_pos h2] at h; cases h
  rw [if_neg h2] at h ⊢
  by_cases h3 : (conds ps.tail none8).1 ≠ 0
  · rw [if_pos h3] at h; exact absurd h h3
  rw [if_neg h3] at h ⊢
  by_cases h4 : missing (conds ps.tail none8).2 = true
  · rw [if_pos h4] at h; cases h
  rw [if_neg h4]
  have hlt := plc_lt vws (ps.getD 0 ByteArray.empty)
  have : vws.length = 3 := rfl
  exact ⟨⟨by show (plc vws _).toNat ≤ 2; omega, conds_good _ _ good_none (by omega), by simpa using h4⟩, by omega⟩
structure GoodB (b : Bk) : Prop where
  pol : b.pol ≤ 2
  len : b.rs.length ≤ 48
  rs : ∀ r ∈ b.rs, GoodR r
theorem good_bk0 : GoodB bk0 := ⟨by decide, by decide, fun r h => by cases h⟩
theorem lineOf_good (b : Bk) (ps : List ByteArray) (h : GoodB b) : GoodB (lineOf b ps).2 := by
  unfold lineOf
  split
  · split
    · rename_i hz
      have := ruleOf_good ps b.rs.length hz
      refine ⟨h.pol, by simp; omega, fun r hr => ?_⟩
      rcases List.mem_append.1 hr with hr | hr
      · exact h.rs r hr
      · rw [List.mem_singleton] at hr; subst hr; exact this.1
    · exact good_bk0
  · split
    · exact good_bk0
    · refine ⟨?_, by simp, fun r hr => by cases hr⟩
      show (policyOf ps).toNat ≤ 2
      unfold policyOf
      split
      · have hlt := plc_lt vws (ps.getD 1 ByteArray.empty)
        have : vws.length = 3 := rfl
        omega
      · decide
end Go.Proofs.YtclpnafiiobfhabGreatDoor
namespace Go.Proofs.YtclpnafiiobfhabGreatDoor
open Go.RowKit
set_option linter.unusedVariables false
set_option linter.unusedSimpArgs false

theorem parts_two (c : UInt8) : ∀ (l : List UInt8), c ∈ l → 2 ≤ (parts c l).length
  | [], h => by cases h
  | x :: l, h => by
    unfold parts
    by_cases e : x = c
    · rw [if_pos e]
      obtain ⟨p, r, q⟩ := parts_cons c l
      rw [q]; simp
    · rw [if_neg e]
      have hm : c ∈ l := by
        rcases List.mem_cons.1 h with h | h
        · exact absurd h.symm e
        · exact h
      have := parts_two c l hm
      simp only [List.length_cons, List.length_tail]; omega
theorem cutB_single {c : UInt8} {s : ByteArray} (h : (cutB c s).length = 1) : cutB c s = [s] := by
  unfold cutB at h ⊢
  rw [List.length_map] at h
  have hn : ∀ x ∈ bl s, x ≠ c := fun x hx e => by
    have := parts_two c (bl s) (e ▸ hx)
    omega
  rw [parts_none c _ hn]
  simp [ba_bl]
theorem cutB_many {c : UInt8} {s : ByteArray} (h : (cutB c s).length ≠ 1) : c ∈ bl s := by
  refine Classical.byContradiction fun hn => h ?_
  unfold cutB
  rw [List.length_map, parts_none c _ (fun x hx e => hn (e ▸ hx))]; rfl
theorem numOf_has (c : UInt8) (s : ByteArray) (h : c ∈ bl s) (hd : digit c = false) : numOf s = none := by
  unfold numOf
  rw [if_neg]
  rintro ⟨_, ha⟩
  have := List.all_eq_true.1 ha c h
  rw [hd] at this; cases this
/-- a text around its first byte c -/
structure CutAt (c : UInt8) (s a z : ByteArray) (f : Bool) : Prop where
  miss : f = false → cutB c s = [s] ∧ a = s ∧ z = ByteArray.empty
  hit : f = true → cutB c s = a :: cutB c z
  sza : a.size ≤ s.size
  szz : z.size ≤ s.size
theorem cutAt_lib (c : UInt8) (s : ByteArray) : CutAt c s ⟨(Lib.cut s.data.toList [c]).1.toArray⟩ ⟨(Lib.cut s.data.toList [c]).2.1.toArray⟩ (Lib.cut s.data.toList [c]).2.2 := by
  show CutAt c s (ba (Lib.cut (bl s) [c]).1) (ba (Lib.cut (bl s) [c]).2.1) (Lib.cut (bl s) [c]).2.2
  unfold Lib.cut
  by_cases h : 0 ≤ Lib.index (bl s) [c]
  · rw [if_pos h]
    obtain ⟨i, hi⟩ : ∃ i : Nat, Lib.index (bl s) [c] = i := ⟨(Lib.index (bl s) [c]).toNat, by omega⟩
    obtain ⟨e, hn, hlt⟩ := index_one_some c (bl s) i hi
    refine ⟨fun q => (by cases q), fun _ => ?_, ?_, ?_⟩
    · show cutB c s = ba ((bl s).take (Lib.index (bl s) [c]).toNat) :: cutB c (ba ((bl s).drop ((Lib.index (bl s) [c]).toNat + [c].length)))
      rw [hi, Int.toNat_natCast]
      unfold cutB
      rw [bl_ba]
      conv => lhs; rw [e, parts_hit c _ _ hn]
      rfl
    · show (ba ((bl s).take (Lib.index (bl s) [c]).toNat)).size ≤ _
      rw [ba_size, List.length_take, bl_len]; omega
    · show (ba ((bl s).drop _)).size ≤ _
      rw [ba_size, List.length_drop, bl_len]; omega
  · rw [if_neg h]
    have hm : Lib.index (bl s) [c] = -1 := by
      rcases Lib.index_spec (bl s) [c] with ⟨h1, _⟩ | ⟨i, h1, _⟩
      · exact h1
      · omega
    refine ⟨fun _ => ⟨?_, ba_bl s, rfl⟩, fun q => (by cases q), by show (ba (bl s)).size ≤ _; rw [ba_bl]; exact Nat.le_refl _, Nat.zero_le _⟩
    unfold cutB
    rw [parts_none c _ (index_one_none c _ hm)]
    simp [ba_bl]
/-- two numbers with a sign between -/
theorem CutAt.two {c : UInt8} {s a z : ByteArray} {f : Bool} (h : CutAt c s a z f) (hd : digit c = false) :
    (f = true ∧ cutB c s = [a, z]) ∨ (numOf z = none ∧ (cutB c s).length ≠ 2) := by
  cases f with
  | false =>
    obtain ⟨h1, _, h3⟩ := h.miss rfl
    refine Or.inr ⟨by rw [h3]; exact numOf_empty _ rfl, by rw [h1]; simp⟩
  | true =>
    have h1 := h.hit rfl
    by_cases hl : (cutB c z).length = 1
    · exact Or.inl ⟨rfl, by rw [h1, cutB_single hl]⟩
    · exact Or.inr ⟨numOf_has c z (cutB_many hl) hd, by rw [h1, List.length_cons]; omega⟩
theorem nums_two (a b : ByteArray) : nums [a, b] = (numOf a).bind fun x => (numOf b).map fun y => [x, y] := by
  unfold nums nums nums
  cases numOf a with
  | none => rfl
  | some v => cases numOf b <;> rfl
theorem nums_none_mem : ∀ (l : List ByteArray) (p : ByteArray), p ∈ l → numOf p = none → nums l = none
  | [], p, h, _ => by cases h
  | q :: r, p, h, hn => by
    rcases List.mem_cons.1 h with rfl | h
    · exact nums_bad r hn
    · rw [nums, nums_none_mem r p h hn]
      cases numOf q <;> rfl
theorem nums_append (l : List ByteArray) (p : ByteArray) : nums (l ++ [p]) = (nums l).bind fun q => (numOf p).map fun v => q ++ [v] := by
  induction l with
  | nil =>
    rw [List.nil_append]
    unfold nums nums
    cases numOf p <;> rfl
  | cons a l ih =>
    rw [List.cons_append, nums, nums, ih]
    cases numOf a with
    | none => rfl
    | some v => cases nums l with
      | none => rfl
      | some q => cases numOf p <;> rfl
end Go.Proofs.YtclpnafiiobfhabGreatDoor
namespace Go.Proofs.YtclpnafiiobfhabGreatDoor
open Go.RowKit
set_option linter.unusedVariables false
set_option linter.unusedSimpArgs false

/-- pieces with a byte between each two -/
def glue (c : UInt8) : List (List UInt8) → List UInt8
  | [] => []
  | p :: r => match r with
    | [] => p
    | _ :: _ => p ++ c :: glue c r
theorem glue_one (c : UInt8) (p : List UInt8) : glue c [p] = p := rfl
theorem glue_more (c : UInt8) (p q : List UInt8) (r : List (List UInt8)) : glue c (p :: q :: r) = p ++ c :: glue c (q :: r) := rfl
def Free (c : UInt8) (p : List UInt8) : Prop := ∀ x ∈ p, x ≠ c
theorem free_append {c : UInt8} {p q : List UInt8} (hp : Free c p) (hq : Free c q) : Free c (p ++ q) := fun x hx => by
  rcases List.mem_append.1 hx with h | h
  · exact hp x h
  · exact hq x h
theorem free_cons {c x : UInt8} {q : List UInt8} (hx : x ≠ c) (hq : Free c q) : Free c (x :: q) := fun y hy => by
  rcases List.mem_cons.1 hy with h | h
  · subst h; exact hx
  · exact hq y h
theorem free_nil (c : UInt8) : Free c [] := fun x hx => by cases hx
theorem free_glue {c d : UInt8} (h : d ≠ c) : ∀ (ls : List (List UInt8)), (∀ p ∈ ls, Free c p) → Free c (glue d ls)
  | [], _ => free_nil c
  | [p], hp => hp p (List.mem_cons_self ..)
  | p :: q :: r, hp => free_append (hp p (List.mem_cons_self ..)) (free_cons h (free_glue h (q :: r) (fun x hx => hp x (List.mem_cons_of_mem _ hx))))
theorem parts_glue (c : UInt8) : ∀ (p : List UInt8) (r : List (List UInt8)), (∀ q ∈ p :: r, Free c q) → parts c (glue c (p :: r)) = p :: r
  | p, [], h => parts_none c p (h p (List.mem_cons_self ..))
  | p, q :: r, h => by
    rw [glue_more, parts_hit c _ p (h p (List.mem_cons_self ..)), parts_glue c q r (fun x hx => h x (List.mem_cons_of_mem _ hx))]
theorem cutB_glue (c : UInt8) (p : List UInt8) (r : List (List UInt8)) (h : ∀ q ∈ p :: r, Free c q) : cutB c (ba (glue c (p :: r))) = (p :: r).map ba := by
  unfold cutB
  rw [bl_ba, parts_glue c p r h]
theorem pieces_glue (p : List UInt8) (r : List (List UInt8)) (h : ∀ q ∈ p :: r, Free 32 q ∧ q ≠ []) : pieces (ba (glue 32 (p :: r))) = (p :: r).map ba := by
  unfold pieces
  rw [cutB_glue 32 p r (fun q hq => (h q hq).1), List.filter_eq_self]
  intro q hq
  obtain ⟨l, hl, rfl⟩ := List.mem_map.1 hq
  have := (h l hl).2
  rw [ba_size]
  cases l with
  | nil => exact absurd rfl this
  | cons a l => simp
theorem pieces_empty : pieces (ba []) = [] := by
  unfold pieces cutB
  rw [bl_ba]
  rfl
/-- digits -/
theorem val_snoc (l : List UInt8) (x : UInt8) : val (l ++ [x]) = 10 * val l + (x.toNat - 48) := by
  unfold val
  rw [List.foldl_append]; rfl
theorem dec_facts : ∀ (k n : Nat), n < k → (∀ x ∈ dec n, digit x = true) ∧ dec n ≠ [] ∧ val (dec n) = n
  | 0, n, h => by omega
  | k + 1, n, h => by
    have hd : ∀ m, m < 10 → digit (UInt8.ofNat (48 + m)) = true ∧ (UInt8.ofNat (48 + m)).toNat - 48 = m := fun m hm => by
      have e : (UInt8.ofNat (48 + m)).toNat = 48 + m := by
        rw [UInt8.toNat_ofNat']; omega
      unfold digit
      rw [e]
      refine ⟨by simp; omega, by omega⟩
    by_cases h10 : n < 10
    · rw [dec_small h10]
      have := hd n h10
      refine ⟨fun x hx => ?_, by simp, ?_⟩
      · rw [List.mem_singleton] at hx; subst hx; exact this.1
      · show 10 * 0 + _ = n
        rw [this.2]; omega
    · rw [dec_big h10]
      obtain ⟨h1, h2, h3⟩ := dec_facts k (n / 10) (by omega)
      have := hd (n % 10) (by omega)
      refine ⟨fun x hx => ?_, by simp, ?_⟩
      · rcases List.mem_append.1 hx with h | h
        · exact h1 x h
        · rw [List.mem_singleton] at h; subst h; exact this.1
      · rw [val_snoc, h3, this.2]; omega
theorem dec_digit (n : Nat) : ∀ x ∈ dec n, digit x = true := (dec_facts (n + 1) n (by omega)).1
theorem dec_ne (n : Nat) : dec n ≠ [] := (dec_facts (n + 1) n (by omega)).2.1
theorem dec_val (n : Nat) : val (dec n) = n := (dec_facts (n + 1) n (by omega)).2.2
theorem dec_free (n : Nat) {c : UInt8} (h : digit c = false) : Free c (dec n) := fun x hx e => by
  have := dec_digit n x hx
  rw [e, h] at this; cases this
theorem numOf_dec (n : Nat) : numOf (ba (dec n)) = some n := by
  unfold numOf
  rw [if_pos, bl_ba, dec_val]
  refine ⟨?_, ?_⟩
  · rw [ba_size]
    intro e
    exact dec_ne n (List.length_eq_zero_iff.1 e)
  · rw [bl_ba, List.all_eq_true]
    exact dec_digit n
theorem dec_len (n : Nat) (h : n < 100000) : (dec n).length ≤ 5 := by
  by_cases h1 : n < 10
  · rw [dec_small h1]; simp
  rw [dec_big h1, List.length_append]
  by_cases h2 : n / 10 < 10
  · rw [dec_small h2]; simp
  rw [dec_big h2, List.length_append]
  by_cases h3 : n / 10 / 10 < 10
  · rw [dec_small h3]; simp
  rw [dec_big h3, List.length_append]
  by_cases h4 : n / 10 / 10 / 10 < 10
  · rw [dec_small h4]; simp
  rw [dec_big h4, List.length_append, dec_small (by omega)]; simp
/-- one port -/
theorem port_one (n : Nat) (h : n ≤ 65535) : portVal (ba (dec n)) = (0, [n, n]) := by
  have e : cutB 45 (ba (dec n)) = [ba (dec n)] := cutB_glue 45 (dec n) [] (fun q hq => by
    rw [List.mem_singleton] at hq; subst hq; exact dec_free n rfl)
  unfold portVal
  rw [e, nums_fine _ (numOf_dec n)]
  show (if n ≤ 65535 then _ else _) = _
  rw [if_pos h]
theorem port_two (a b : Nat) (hab : a ≤ b) (h : b ≤ 65535) : portVal (ba (dec a ++ 45 :: dec b)) = (0, [a, b]) := by
  have e : cutB 45 (ba (glue 45 [dec a, dec b])) = [ba (dec a), ba (dec b)] := cutB_glue 45 (dec a) [dec b] (fun q hq => by
    simp only [List.mem_cons, List.not_mem_nil, or_false] at hq
    rcases hq with rfl | rfl <;> exact dec_free _ rfl)
  have e : cutB 45 (ba (dec a ++ 45 :: dec b)) = [ba (dec a), ba (dec b)] := e
  unfold portVal
  rw [e, nums_two, numOf_dec, numOf_dec]
  show (if b ≤ 65535 ∧ a ≤ b then _ else _) = _
  rw [if_pos ⟨h, hab⟩]
/-- n.0.0.0/k -/
theorem net_one (n k : Nat) (hn : n ≤ 255) (hk : k ≤ 32) (hz : (n * 16777216) % 2 ^ (32 - k) = 0) : netVal (ba (dec n ++ 46 :: 48 :: 46 :: 48 :: 46 :: 48 :: 47 :: dec k)) = (0, [n * 16777216, k]) := by
  have f : Free 47 (dec n ++ 46 :: 48 :: 46 :: 48 :: 46 :: 48 :: []) := free_append (dec_free n rfl) (free_cons (by decide) (free_cons (by decide) (free_cons (by decide) (free_cons (by decide) (free_cons (by decide) (free_cons (by decide) (free_nil _)))))))
  have e : cutB 47 (ba (glue 47 [dec n ++ [46, 48, 46, 48, 46, 48], dec k])) = [ba (dec n ++ [46, 48, 46, 48, 46, 48]), ba (dec k)] := cutB_glue 47 _ [dec k] (fun q hq => by
    simp only [List.mem_cons, List.not_mem_nil, or_false] at hq
    rcases hq with rfl | rfl
    · exact f
    · exact dec_free _ rfl)
  have e : cutB 47 (ba (dec n ++ 46 :: 48 :: 46 :: 48 :: 46 :: 48 :: 47 :: dec k)) = [ba (dec n ++ [46, 48, 46, 48, 46, 48]), ba (dec k)] := by
    rw [← e]
    show _ = cutB 47 (ba ((dec n ++ [46, 48, 46, 48, 46, 48]) ++ 47 :: dec k))
    rw [List.append_assoc]; rfl
  have z : dec 0 = [48] := dec_small (by decide)
  have e2 : cutB 46 (ba (glue 46 [dec n, dec 0, dec 0, dec 0])) = [ba (dec n), ba (dec 0), ba (dec 0), ba (dec 0)] := cutB_glue 46 _ _ (fun q hq => by
    simp only [List.mem_cons, List.not_mem_nil, or_false] at hq
    rcases hq with rfl | rfl | rfl | rfl <;> exact dec_free _ rfl)
  have e2 : cutB 46 (ba (dec n ++ [46, 48, 46, 48, 46, 48])) = [ba (dec n), ba (dec 0), ba (dec 0), ba (dec 0)] := by
    rw [← e2]
    show _ = cutB 46 (ba (dec n ++ 46 :: (dec 0 ++ 46 :: (dec 0 ++ 46 :: dec 0))))
    rw [z]; rfl
  unfold netVal
  rw [e]
  show (match nums (cutB 46 (ba (dec n ++ [46, 48, 46, 48, 46, 48]))), numOf (ba (dec k)) with | some q, some n => netOf q n | _, _ => (3, [])) = _
  rw [e2, nums_fine _ (numOf_dec n), nums_fine _ (numOf_dec 0), nums_fine _ (numOf_dec 0), nums_fine _ (numOf_dec 0), numOf_dec]
  show netOf [n, 0, 0, 0] k = _
  have e3 : ((n * 256 + 0) * 256 + 0) * 256 + 0 = n * 16777216 := by omega
  unfold netOf
  dsimp only
  rw [e3, if_pos ⟨hn, by decide, by decide, by decide, hk, hz⟩]
/-- the words -/
def wV (v : Nat) : List UInt8 := bl (vws.getD v ByteArray.empty)
theorem wV_3 {v : Nat} (h : v < 3) : v = 0 ∨ v = 1 ∨ v = 2 := by omega
theorem wV_plc {v : Nat} (h : v < 3) : plc vws (ba (wV v)) = v := by
  rcases wV_3 h with rfl | rfl | rfl <;> decide
theorem wV_free {v : Nat} (h : v < 3) (c : UInt8) (hc : c = 32 ∨ c = 10) : Free c (wV v) := by
  unfold Free
  rcases wV_3 h with rfl | rfl | rfl <;> rcases hc with rfl | rfl <;> decide
theorem wV_ne {v : Nat} (h : v < 3) : wV v ≠ [] := by
  rcases wV_3 h with rfl | rfl | rfl <;> decide
def wIn : List UInt8 := [105, 110]
def wFrom : List UInt8 := [102, 114, 111, 109]
def wProto : List UInt8 := [112, 114, 111, 116, 111]
def wSport : List UInt8 := [115, 112, 111, 114, 116]
def wDport : List UInt8 := [100, 112, 111, 114, 116]
def wTcp : List UInt8 := [116, 99, 112]
def wUdp : List UInt8 := [117, 100, 112]
def wPolicy : List UInt8 := [112, 111, 108, 105, 99, 121]
theorem conds_next {n p : ByteArray} {r : List ByteArray} {cs : Cs} (i : Nat) (v : List Nat) (h1 : plc nws n = i) (h2 : cs.getD i none = none) (h3 : condVal i p = (0, v)) : conds (n :: p :: r) cs = conds r (cs.set i (some v)) := by
  rw [conds, h1, Int.toNat_natCast, if_neg (by omega), h2, h3]
  rfl
theorem rule_line {ps : List ByteArray} {ahead v : Nat} {cs : Cs} (hv : plc vws (ps.getD 0 ByteArray.empty) = v) (h : ahead < 48) (hc : conds ps.tail none8 = (0, cs)) (hm : missing cs = false) : ruleOf ps ahead = (0, ⟨v, cs⟩) := by
  unfold ruleOf
  rw [hv, if_neg (by omega), if_neg (by omega), hc, if_neg (fun q => q rfl), hm, if_neg (by decide), Int.toNat_natCast]
theorem line_pol {v : Nat} (hv : v < 3) : lineOf bk0 [ba wPolicy, ba (wV v)] = (0, ⟨true, v, []⟩) := by
  unfold lineOf policyOf
  rw [if_neg (by decide)]
  have e : ([ba wPolicy, ba (wV v)] : List ByteArray).length = 2 ∧ ([ba wPolicy, ba (wV v)] : List ByteArray).getD 0 ByteArray.empty = polw := ⟨rfl, rfl⟩
  rw [if_pos e]
  show (if plc vws (ba (wV v)) < 0 then (3, bk0) else ((0 : Nat), (⟨true, (plc vws (ba (wV v))).toNat, []⟩ : Bk))) = _
  rw [wV_plc hv, if_neg (by omega), Int.toNat_natCast]
theorem line_rule {b : Bk} {ps : List ByteArray} {r : Rl} (hb : b.has = true) (h : ruleOf ps b.rs.length = (0, r)) : lineOf b ps = (0, ⟨true, b.pol, b.rs ++ [r]⟩) := by
  unfold lineOf
  rw [if_pos hb, h, if_pos rfl]
/-- a line that has words -/
theorem lines_step {p : List UInt8} {q : List (List UInt8)} {l : List ByteArray} {n : Nat} {b b' : Bk} (hw : ∀ x ∈ p :: q, Free 32 x ∧ x ≠ []) (h : lineOf b ((p :: q).map ba) = (0, b')) : linesOf (ba (glue 32 (p :: q)) :: l) n b = linesOf l (n + 1) b' := by
  rw [linesOf, pieces_glue p q hw, if_neg (by simp), h, if_neg (fun q => q rfl)]
theorem lines_end (n : Nat) {b : Bk} (h : b.has = true) : linesOf [] n b = (0, 0, b) := by rw [linesOf, if_pos h]
theorem lines_blank (n : Nat) {b : Bk} (h : b.has = true) : linesOf [ba []] n b = (0, 0, b) := by
  rw [linesOf, pieces_empty, if_pos rfl, linesOf, if_pos h]
/-- a text of lines -/
theorem read_lines (p : List UInt8) (r : List (List UInt8)) (hf : ∀ q ∈ p :: r, Free 10 q) (hs : (glue 10 (p :: r)).length ≤ 2000) {t : Nat × Nat × Bk} (h : linesOf ((p :: r).map ba) 0 bk0 = t) : readT (ba (glue 10 (p :: r))) = t := by
  unfold readT
  rw [ba_size, if_neg (by omega), cutB_glue 10 p r hf, h]
end Go.Proofs.YtclpnafiiobfhabGreatDoor

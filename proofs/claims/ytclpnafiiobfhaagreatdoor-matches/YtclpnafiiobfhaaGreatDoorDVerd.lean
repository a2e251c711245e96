import Derived.Test.YtclpnafiiobfhaaGreatDoorItemAll
import Derived.Test.YtclpnafiiobfhaaGreatDoorCNets
namespace Go.Proofs.YtclpnafiiobfhaaGreatDoor
open Go.RowKit
set_option linter.unusedVariables false
set_option linter.unusedSimpArgs false

def spOf (s : ByteArray) : Int := if nth s 23 = 6 ∨ nth s 23 = 17 then numv s 34 2 else if nth s 23 = 1 ∧ (nth s 34 = 8 ∨ nth s 34 = 0) then numv s 38 2 else 0
def dpOf (s : ByteArray) : Int := if nth s 23 = 6 ∨ nth s 23 = 17 then numv s 36 2 else if nth s 23 = 1 ∧ (nth s 34 = 8 ∨ nth s 34 = 0) then numv s 38 2 else 0
def flOf (s : ByteArray) : Int := if nth s 23 = 6 then nth s 47 % 64 else if nth s 23 = 1 then nth s 34 else 0
theorem hdr_is (s : ByteArray) : hdr s = #[.int .u32 (numv s 26 4), .int .u32 (numv s 30 4), .int .u8 (nth s 23), .int .u16 (spOf s), .int .u16 (dpOf s), .int .u8 (flOf s)] := rfl
/-- what a condition says of a header -/
def docC (i : Nat) (v : List Nat) (a b p sp dp f : Int) (m : Int × Int) : Bool :=
  if i = 0 then m.1 == n0 v 0
  else if i = 1 then a.toNat / 2 ^ (32 - v.getD 1 0) == v.getD 0 0 / 2 ^ (32 - v.getD 1 0)
  else if i = 2 then b.toNat / 2 ^ (32 - v.getD 1 0) == v.getD 0 0 / 2 ^ (32 - v.getD 1 0)
  else if i = 3 then p == n0 v 0
  else if i = 4 then decide (n0 v 0 ≤ sp) && decide (sp ≤ n0 v 1)
  else if i = 5 then decide (n0 v 0 ≤ dp) && decide (dp ≤ n0 v 1)
  else if i = 6 then ((f.toNat &&& v.getD 0 0 : Nat) : Int) == n0 v 1
  else v.getD m.2.toNat 0 == 1
def docO (cs : Cs) (i : Nat) (a b p sp dp f : Int) (m : Int × Int) : Bool := match cs.getD i none with | none => true | some v => docC i v a b p sp dp f m
def docCs (cs : Cs) (a b p sp dp f : Int) (m : Int × Int) : Nat → Nat → Bool
  | 0, _ => true
  | n + 1, i => docO cs i a b p sp dp f m && docCs cs a b p sp dp f m n (i + 1)
def docV (pol : Nat) (a b p sp dp f : Int) (m : Int × Int) : List Rl → Nat
  | [] => pol
  | r :: l => if docCs r.cs a b p sp dp f m 8 0 = true then r.v else docV pol a b p sp dp f m l
def codO (cs : Cs) (i : Nat) (d : ByteArray) (m : Int × Int) : Bool := match cs.getD i none with | none => true | some v => holdsC i v d m
/-- what a fine frame is sure of -/
structure FineF (s : ByteArray) : Prop where
  len : 34 ≤ s.size
  tcp : nth s 23 = 6 → 54 ≤ s.size
  udp : nth s 23 = 17 → 42 ≤ s.size
theorem fine_of {s : ByteArray} (h : cls s = 0) : FineF s := by
  unfold cls at h
  repeat' split at h
  all_goals (try omega)
  rename_i h1 h2 h3 h4 h5 h6 h7 h8 h9
  refine ⟨by omega, fun e => ?_, fun e => ?_⟩
  · unfold inn at h9
    rw [if_pos e] at h9
    simp at h9
    omega
  · unfold inn at h9
    rw [if_neg (by omega), if_pos e] at h9
    simp at h9
    omega
theorem numv_one (s : ByteArray) (k : Nat) : numv s k 1 = nth s k := by
  rw [numv_s, numv_0, Nat.add_zero]; omega
theorem and_low (x m : Nat) (h : m ≤ 63) : x % 64 &&& m = x &&& m := by
  have e : x % 64 = x &&& 63 := (Nat.and_two_pow_sub_one_eq_mod x 6).symm
  have e2 : 63 &&& m = m := by
    rw [Nat.and_comm]
    exact (Nat.and_two_pow_sub_one_eq_mod m 6).trans (Nat.mod_eq_of_lt (by omega))
  rw [e, Nat.and_assoc, e2]
section
variable {s : ByteArray} {cs : Cs} (hF : FineF s) (hG : GoodCs cs) (hM : missing cs = false) (m : Int × Int)
theorem two_0 : codO cs 0 s m = docO cs 0 (numv s 26 4) (numv s 30 4) (nth s 23) (spOf s) (dpOf s) (flOf s) m := by
  unfold codO docO
  cases cs.getD 0 none with
  | none => rfl
  | some v => simp [holdsC, lenC, condB, docC]
include hF hG in
theorem two_12 (i : Nat) (hi : i = 1 ∨ i = 2) : codO cs i s m = docO cs i (numv s 26 4) (numv s 30 4) (nth s 23) (spOf s) (dpOf s) (flOf s) m := by
  have hl := hF.len
  have n1 := numv_bd4 s 26 4 (by omega)
  have n2 := numv_bd4 s 30 4 (by omega)
  unfold codO docO
  cases hc : cs.getD i none with
  | none => rfl
  | some v =>
    have hg := hG.2 i v hc
    unfold Good at hg
    rw [if_neg (by omega), if_pos hi] at hg
    obtain ⟨a, n, rfl, ha, hn, hz⟩ := hg
    rcases hi with rfl | rfl
    · have := net_iff (numv s 26 4).toNat a n (by omega) hn hz
      simp only [holdsC, lenC, condB, docC, n0]
      by_cases q : (numv s 26 4).toNat &&& maskOf n = a
      · have q2 := this.1 q
        simp [q, q2]; omega
      · have q2 := fun h => q (this.2 h)
        have q3 : ¬ (((numv s 26 4).toNat &&& maskOf n : Nat) : Int) = (a : Int) := fun h => q (Int.ofNat.inj h)
        have r1 : ((((numv s 26 4).toNat &&& maskOf n : Nat) : Int) == (a : Int)) = false := by simpa using q3
        have r2 : ((numv s 26 4).toNat / 2 ^ (32 - n) == a / 2 ^ (32 - n)) = false := by simpa using q2
        show (_ && ((((numv s 26 4).toNat &&& maskOf n : Nat) : Int) == (a : Int))) = ((numv s 26 4).toNat / 2 ^ (32 - n) == a / 2 ^ (32 - n))
        rw [r1, r2, Bool.and_false]
    · have := net_iff (numv s 30 4).toNat a n (by omega) hn hz
      simp only [holdsC, lenC, condB, docC, n0]
      by_cases q : (numv s 30 4).toNat &&& maskOf n = a
      · have q2 := this.1 q
        simp [q, q2]; omega
      · have q2 := fun h => q (this.2 h)
        have q3 : ¬ (((numv s 30 4).toNat &&& maskOf n : Nat) : Int) = (a : Int) := fun h => q (Int.ofNat.inj h)
        have r1 : ((((numv s 30 4).toNat &&& maskOf n : Nat) : Int) == (a : Int)) = false := by simpa using q3
        have r2 : ((numv s 30 4).toNat / 2 ^ (32 - n) == a / 2 ^ (32 - n)) = false := by simpa using q2
        show (_ && ((((numv s 30 4).toNat &&& maskOf n : Nat) : Int) == (a : Int))) = ((numv s 30 4).toNat / 2 ^ (32 - n) == a / 2 ^ (32 - n))
        rw [r1, r2, Bool.and_false]
include hF in
theorem two_3 : codO cs 3 s m = docO cs 3 (numv s 26 4) (numv s 30 4) (nth s 23) (spOf s) (dpOf s) (flOf s) m := by
  have hl := hF.len
  unfold codO docO
  cases cs.getD 3 none with
  | none => rfl
  | some v =>
    simp only [holdsC, lenC, condB, docC, numv_one]
    have : 24 ≤ s.size := by omega
    simp [this]
include hG in
theorem two_7 (hm : 0 ≤ m.2 ∧ m.2 ≤ 2) : codO cs 7 s m = docO cs 7 (numv s 26 4) (numv s 30 4) (nth s 23) (spOf s) (dpOf s) (flOf s) m := by
  unfold codO docO
  cases hc : cs.getD 7 none with
  | none => rfl
  | some v =>
    have hg := hG.2 7 v hc
    unfold Good at hg
    simp only [show ¬ (7 : Nat) = 0 by decide, show ¬ ((7 : Nat) = 1 ∨ (7 : Nat) = 2) by decide, show ¬ (7 : Nat) = 3 by decide, show ¬ ((7 : Nat) = 4 ∨ (7 : Nat) = 5) by decide, show ¬ (7 : Nat) = 6 by decide, if_false] at hg
    obtain ⟨x, y, z, rfl⟩ := hg
    obtain ⟨i, t⟩ := m
    dsimp only at hm
    have h3 : t = 0 ∨ t = 1 ∨ t = 2 := by omega
    rcases h3 with rfl | rfl | rfl <;> cases x <;> cases y <;> cases z <;> rfl
/-- a rule that names ports names a protocol that has them -/
theorem proto_is (v : List Nat) (h : cs.getD 3 none = some v) (hp : docO cs 3 (numv s 26 4) (numv s 30 4) (nth s 23) (spOf s) (dpOf s) (flOf s) m = true) : nth s 23 = (protoOf cs : Int) := by
  unfold docO at hp
  rw [h] at hp
  unfold protoOf
  rw [h]
  simpa [docC, n0] using hp
theorem proto_some (h : protoOf cs ≠ 0) : ∃ v, cs.getD 3 none = some v := by
  cases e : cs.getD 3 none with
  | none => exact absurd (by unfold protoOf; rw [e]; rfl) h
  | some v => exact ⟨v, rfl⟩
include hF hM in
theorem two_45 (i : Nat) (hi : i = 4 ∨ i = 5) (hp : docO cs 3 (numv s 26 4) (numv s 30 4) (nth s 23) (spOf s) (dpOf s) (flOf s) m = true) : codO cs i s m = docO cs i (numv s 26 4) (numv s 30 4) (nth s 23) (spOf s) (dpOf s) (flOf s) m := by
  unfold codO docO
  cases hc : cs.getD i none with
  | none => rfl
  | some v =>
    have hpr : protoOf cs = 6 ∨ protoOf cs = 17 := by
      unfold missing at hM
      rcases hi with rfl | rfl <;> rw [hc] at hM <;> simp at hM <;> omega
    obtain ⟨u, hu⟩ := proto_some (cs := cs) (by omega)
    have e := proto_is m u hu hp
    have h67 : nth s 23 = 6 ∨ nth s 23 = 17 := by omega
    have hz : 38 ≤ s.size := by
      rcases h67 with h | h
      · have := hF.tcp h; omega
      · have := hF.udp h; omega
    have es : spOf s = numv s 34 2 := by unfold spOf; rw [if_pos h67]
    have ed : dpOf s = numv s 36 2 := by unfold dpOf; rw [if_pos h67]
    rw [es, ed]
    rcases hi with rfl | rfl
    · have z1 : 36 ≤ s.size := by omega
      simp only [holdsC, lenC, condB, docC]
      simp [z1]
      congr 1
      by_cases q : numv s 34 2 ≤ n0 v 1
      · simp [q]; omega
      · simp [q]; omega
    · simp only [holdsC, lenC, condB, docC]
      simp [hz]
      congr 1
      by_cases q : numv s 36 2 ≤ n0 v 1
      · simp [q]; omega
      · simp [q]; omega
include hF hG hM in
theorem two_6 (hp : docO cs 3 (numv s 26 4) (numv s 30 4) (nth s 23) (spOf s) (dpOf s) (flOf s) m = true) : codO cs 6 s m = docO cs 6 (numv s 26 4) (numv s 30 4) (nth s 23) (spOf s) (dpOf s) (flOf s) m := by
  unfold codO docO
  cases hc : cs.getD 6 none with
  | none => rfl
  | some v =>
    have hpr : protoOf cs = 6 := by
      unfold missing at hM
      rw [hc] at hM
      simp at hM
      exact hM.2
    obtain ⟨u, hu⟩ := proto_some (cs := cs) (by omega)
    have e := proto_is m u hu hp
    have h6 : nth s 23 = 6 := by omega
    have hz : 48 ≤ s.size := by have := hF.tcp h6; omega
    have ef : flOf s = nth s 47 % 64 := by unfold flOf; rw [if_pos h6]
    have hg := hG.2 6 v hc
    unfold Good at hg
    simp only [show ¬ (6 : Nat) = 0 by decide, show ¬ ((6 : Nat) = 1 ∨ (6 : Nat) = 2) by decide, show ¬ (6 : Nat) = 3 by decide, show ¬ ((6 : Nat) = 4 ∨ (6 : Nat) = 5) by decide, if_false, if_true] at hg
    obtain ⟨k, t, rfl, hk, _⟩ := hg
    have hb := nth_bd s 47
    have en : (nth s 47 % 64).toNat = (nth s 47).toNat % 64 := by omega
    rw [ef]
    simp only [holdsC, lenC, condB, docC, numv_one]
    rw [en]
    show (decide (48 ≤ s.size) && ((((nth s 47).toNat &&& k : Nat) : Int) == n0 [k, t] 1)) = ((((nth s 47).toNat % 64 &&& k : Nat) : Int) == n0 [k, t] 1)
    rw [and_low _ _ hk]
    simp [hz]
include hF hG hM in
theorem conds_two (hm : 0 ≤ m.2 ∧ m.2 ≤ 2) : condsB cs s m 8 0 = docCs cs (numv s 26 4) (numv s 30 4) (nth s 23) (spOf s) (dpOf s) (flOf s) m 8 0 := by
  have e1 : condsB cs s m 8 0 = (codO cs 0 s m && (codO cs 1 s m && (codO cs 2 s m && (codO cs 3 s m && (codO cs 4 s m && (codO cs 5 s m && (codO cs 6 s m && (codO cs 7 s m && true)))))))) := rfl
  have h3 := two_45 hF hM m
  have h6 := two_6 hF hG hM m
  rw [e1, two_0 m, two_12 hF hG m 1 (.inl rfl), two_12 hF hG m 2 (.inr rfl), two_3 hF m, two_7 hG m hm]
  simp only [docCs]
  cases hp : docO cs 3 (numv s 26 4) (numv s 30 4) (nth s 23) (spOf s) (dpOf s) (flOf s) m with
  | false => simp
  | true => rw [h3 4 (.inl rfl) hp, h3 5 (.inr rfl) hp, h6 hp]
end
theorem verd_two {s : ByteArray} (hF : FineF s) (m : Int × Int) (hm : 0 ≤ m.2 ∧ m.2 ≤ 2) (pol : Nat) : ∀ (l : List Rl), (∀ r ∈ l, GoodR r) → verdB pol s m l = docV pol (numv s 26 4) (numv s 30 4) (nth s 23) (spOf s) (dpOf s) (flOf s) m l
  | [], _ => rfl
  | r :: l, h => by
    have hr := h r (List.mem_cons_self ..)
    rw [verdB, docV, verd_two hF m hm pol l (fun x hx => h x (List.mem_cons_of_mem _ hx))]
    unfold ruleB
    rw [conds_two hF hr.cs hr.all m hm]
end Go.Proofs.YtclpnafiiobfhaaGreatDoor

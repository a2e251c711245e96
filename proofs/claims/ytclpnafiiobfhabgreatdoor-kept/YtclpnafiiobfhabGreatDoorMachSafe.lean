import Derived.Test.YtclpnafiiobfhabGreatDoorMach
namespace Go.Proofs.YtclpnafiiobfhabGreatDoor
open Go.RowKit
set_option linter.unusedVariables false
set_option linter.unusedSimpArgs false

/-- what is said to be sure is so -/
structure Holds (F : Fc) (a : St) (d : ByteArray) : Prop where
  come : F.come = true
  set : ∀ i, F.set.getD i false = true → a.set.getD i false = true
  long : ∀ i, F.long.getD i false = true → a.reg.getD i 0 = d.size
  there : F.there ≤ d.size
theorem getD_and (l m : List Bool) (i : Nat) (h : (List.zipWith (· && ·) l m).getD i false = true) : l.getD i false = true ∧ m.getD i false = true := by
  simp only [List.getD_eq_getElem?_getD, List.getElem?_zipWith] at h ⊢
  cases e1 : l[i]? <;> cases e2 : m[i]? <;> simp_all
theorem getD_set_b (l : List Bool) (i j : Nat) (v : Bool) (h : (l.set i v).getD j false = true) : (i = j ∧ v = true) ∨ (i ≠ j ∧ l.getD j false = true) := by
  simp only [List.getD_eq_getElem?_getD, List.getElem?_set] at h ⊢
  split at h
  · split at h
    · exact .inl ⟨by assumption, by simpa using h⟩
    · simp at h
  · exact .inr ⟨by assumption, h⟩
theorem Holds.left {F G : Fc} {a : St} {d : ByteArray} (h : Holds F a d) : Holds (F.meet G) a d := by
  unfold Fc.meet
  rw [if_pos h.come]
  have := h.there
  exact ⟨rfl, fun i hi => h.set i (getD_and _ _ _ hi).1, fun i hi => h.long i (getD_and _ _ _ hi).1, by dsimp only; split <;> omega⟩
theorem Holds.right {F G : Fc} {a : St} {d : ByteArray} (h : Holds G a d) : Holds (F.meet G) a d := by
  unfold Fc.meet
  have := h.there
  split
  · exact ⟨rfl, fun i hi => h.set i (getD_and _ _ _ hi).2, fun i hi => h.long i (getD_and _ _ _ hi).2, by dsimp only; split <;> omega⟩
  · exact h
/-- along the way that is gone what is told holds -/
theorem Holds.does {F : Fc} {a : St} {d : ByteArray} (h : Holds F a d) (ha : a.Ok) (m : Int × Int) (x : Ins) (hx : x.fits = true) (hb : x.Bd) (w : Nat) (hw : w = 0 → x.branch = true → a.goes x = true) :
    Holds (F.behind x w) (a.does d m x) d := by
  have hc := h.come; have h1 := h.set; have h2 := h.long; have h3 := h.there
  have hr : x.r.toNat < 4 := by
    have := hb.r
    unfold Ins.fits at hx
    simp only [Bool.and_eq_true, decide_eq_true_eq] at hx
    omega
  have l1 := ha.reg; have l2 := ha.set
  have put : ∀ (L : List Bool) (v : Int), (∀ i, L.getD i false = true → i ≠ x.r.toNat → a.reg.getD i 0 = d.size) → (L.getD x.r.toNat false = true → v = d.size) → ∀ i, L.getD i false = true → (a.reg.set x.r.toNat v).getD i 0 = d.size := by
    intro L v g1 g2 i hi
    by_cases e : i = x.r.toNat
    · subst e
      simp only [List.getD_eq_getElem?_getD, List.getElem?_set, if_true]
      rw [if_pos (by omega)]
      exact g2 hi
    · have := g1 i hi e
      simp only [List.getD_eq_getElem?_getD, List.getElem?_set] at this ⊢
      rw [if_neg (by omega)]
      exact this
  have puts : ∀ (L : List Bool), (∀ i, L.getD i false = true → i ≠ x.r.toNat → a.set.getD i false = true) → ∀ i, L.getD i false = true → (a.set.set x.r.toNat true).getD i false = true := by
    intro L g1 i hi
    by_cases e : i = x.r.toNat
    · subst e
      simp only [List.getD_eq_getElem?_getD, List.getElem?_set, if_true]
      rw [if_pos (by omega)]
      rfl
    · have := g1 i hi e
      simp only [List.getD_eq_getElem?_getD, List.getElem?_set] at this ⊢
      rw [if_neg (by omega)]
      exact this
  have off : ∀ v : Int, ∀ i, (F.long.set x.r.toNat false).getD i false = true → (a.reg.set x.r.toNat v).getD i 0 = d.size := fun v => put _ v
    (fun i hi _ => by rcases getD_set_b _ _ _ _ hi with ⟨_, g⟩ | ⟨_, g⟩; cases g; exact h2 i g)
    (fun hi => by rcases getD_set_b _ _ _ _ hi with ⟨_, g⟩ | ⟨g, _⟩; cases g; exact absurd rfl g)
  have on : ∀ i, (F.set.set x.r.toNat true).getD i false = true → (a.set.set x.r.toNat true).getD i false = true := puts _
    (fun i hi hn => by rcases getD_set_b _ _ _ _ hi with ⟨g, _⟩ | ⟨_, g⟩; exact absurd g.symm hn; exact h1 i g)
  unfold Fc.behind St.does
  by_cases c1 : x.op = 1
  · rw [if_pos (by omega), if_pos c1]; exact ⟨hc, on, off _, h3⟩
  by_cases c2 : x.op = 2
  · rw [if_pos (by omega), if_neg c1, if_pos c2]; exact ⟨hc, on, off _, h3⟩
  by_cases c3 : x.op = 3
  · rw [if_pos (by omega), if_neg c1, if_neg c2, if_pos c3]; exact ⟨hc, on, off _, h3⟩
  by_cases c4 : x.op = 4
  · rw [if_pos (by omega), if_neg c1, if_neg c2, if_neg c3, if_pos c4]; exact ⟨hc, on, off _, h3⟩
  rw [if_neg (by have := hb.op; omega : ¬ (1 ≤ x.op ∧ x.op ≤ 4)), if_neg c1, if_neg c2, if_neg c3, if_neg c4]
  by_cases c5 : x.op = 5
  · rw [if_pos c5, if_pos c5]
    refine ⟨hc, on, put _ _ (fun i hi hn => ?_) (fun _ => rfl), h3⟩
    rcases getD_set_b _ _ _ _ hi with ⟨g, _⟩ | ⟨_, g⟩
    · exact absurd g.symm hn
    · exact h2 i g
  rw [if_neg c5, if_neg c5]
  by_cases c6 : x.op = 6
  · rw [if_pos (.inl c6), if_pos c6]; exact ⟨hc, h1, off _, h3⟩
  by_cases c7 : x.op = 7
  · rw [if_pos (.inr c7), if_neg c6, if_pos c7]; exact ⟨hc, h1, off _, h3⟩
  rw [if_neg (by omega : ¬ (x.op = 6 ∨ x.op = 7)), if_neg c6, if_neg c7]
  by_cases c8 : x.op = 8 ∨ x.op = 9
  · rw [if_pos c8]
    refine ⟨hc, h1, h2, ?_⟩
    dsimp only
    by_cases g : w = 0 ∧ F.is x = true ∧ F.there < x.k
    · rw [if_pos g]
      have e := h2 _ g.2.1
      have hg := hw g.1 (by unfold Ins.branch; rcases c8 with c | c <;> simp [c])
      unfold St.goes St.at at hg
      rcases c8 with c | c
      · rw [if_pos c, e] at hg
        have : ((d.size : Int)) = x.k := by simpa using hg
        omega
      · rw [if_neg (by omega), if_pos c, e] at hg
        simpa using hg
    · rw [if_neg g]; exact h3
  · rw [if_neg c8]; exact h
theorem Holds.tell {a' : St} {d : ByteArray} {G : Fc} {x : Ins} {i j : Nat} (os : List Int) : ∀ (F : List Fc) (w : Nat), j < F.length → Holds (F.getD j fc0) a' d → Holds ((tell F G x i w os).getD j fc0) a' d := by
  induction os with
  | nil => exact fun F w _ h => h
  | cons o os ih =>
    intro F w hj h
    rw [Go.Proofs.YtclpnafiiobfhabGreatDoor.tell]
    refine ih _ _ (by simpa using hj) ?_
    by_cases e : i + 1 + o.toNat = j
    · subst e
      simp only [List.getD_eq_getElem?_getD, List.getElem?_set, if_true] at h ⊢
      rw [if_pos hj]
      exact h.left
    · simp only [List.getD_eq_getElem?_getD, List.getElem?_set] at h ⊢
      rw [if_neg e]
      exact h
theorem Holds.told {a' : St} {d : ByteArray} {G : Fc} {x : Ins} {i : Nat} (os : List Int) : ∀ (F : List Fc) (w v : Nat) (o : Int), os[v]? = some o → i + 1 + o.toNat < F.length → Holds (G.behind x (w + v)) a' d →
    Holds ((Go.Proofs.YtclpnafiiobfhabGreatDoor.tell F G x i w os).getD (i + 1 + o.toNat) fc0) a' d := by
  induction os with
  | nil => intro F w v o h; simp at h
  | cons p os ih =>
    intro F w v o h hl hh
    rw [Go.Proofs.YtclpnafiiobfhabGreatDoor.tell]
    cases v with
    | zero =>
      simp only [List.getElem?_cons_zero, Option.some.injEq] at h
      subst h
      refine Holds.tell _ _ _ (by simpa using hl) ?_
      simp only [List.getD_eq_getElem?_getD, List.getElem?_set, if_true]
      rw [if_pos hl]
      exact Holds.right hh
    | succ v =>
      simp only [List.getElem?_cons_succ] at h
      exact ih _ _ v o h (by simpa using hl) (by rw [show w + 1 + v = w + (v + 1) by omega]; exact hh)
/-- what holds goes on holding till the walk comes there -/
theorem holds_on {s : ByteArray} {n : Nat} {a : St} {d : ByteArray} {i j : Nat} (hj : j < n) (q : Nat) : Holds ((factsAt s n i).getD j fc0) a d → Holds ((factsAt s n (i + q)).getD j fc0) a d := by
  induction q with
  | zero => exact id
  | succ q ih =>
    intro h
    have h := ih h
    rw [← Nat.add_assoc, factsAt]
    split
    · exact Holds.tell _ _ _ (by rw [factsAt_len]; exact hj) h
    · exact h
/-- the way that is gone is one of the ways out -/
theorem over_way (a : St) (x : Ins) (h : x.op ≠ 0) : ∃ v : Nat, x.overs[v]? = some (a.over x) ∧ (v = 0 → x.branch = true → a.goes x = true) := by
  unfold Ins.overs St.over
  rw [if_neg h]
  by_cases c : x.op = 11
  · rw [if_pos c, if_pos c]
    exact ⟨0, rfl, fun _ g => by unfold Ins.branch at g; rw [c] at g; exact absurd g (by decide)⟩
  rw [if_neg c, if_neg c]
  cases hb : x.branch with
  | false => exact ⟨0, rfl, fun _ g => by cases g⟩
  | true =>
    cases hg : a.goes x with
    | true => exact ⟨0, rfl, fun _ _ => rfl⟩
    | false => exact ⟨1, rfl, fun g => by cases g⟩
theorem safe_goesF {s : ByteArray} {n : Nat} {d : ByteArray} {m : Int × Int} (hs : Fine s n) (hd : d.size ≤ 4294967295) (h1 : 0 ≤ m.1 ∧ m.1 ≤ 4294967295) (h2 : 0 ≤ m.2 ∧ m.2 ≤ 4294967295) (fl : Nat) :
    ∀ (i c : Nat) (a : St) (v : Int) (z : Nat) (k : Int), GoesF s n d m fl i c a v z k → i < n → c ≤ i → a.Ok → Holds (here s n i) a d → k = 0 ∧ 0 ≤ v ∧ v ≤ 2 ∧ 1 ≤ z ∧ z ≤ n := by
  induction fl with
  | zero => intro i c a v z k hg g; have := hg.1; omega
  | succ fl ih =>
    intro i c a v z k hg
    rcases hg with ⟨h, _, _, _⟩ | ⟨h, ho, rfl, rfl, rfl⟩ | ⟨h, ho, ht, rfl, rfl, rfl⟩ | ⟨h, ho, ht, hgo⟩
    · intro g; omega
    · intro g hc ha hh
      have hf := hs.fits i h
      have := (insAt_bd s i).k
      unfold Ins.fits at hf
      rw [if_pos ho] at hf
      simp only [Bool.and_eq_true, decide_eq_true_eq] at hf
      omega
    · intro g hc ha hh
      exfalso
      have hu := hs.uses i h
      unfold usesK at hu
      rw [if_pos hh.come] at hu
      unfold Fc.fault at hu
      apply ht
      unfold St.trap
      have t1 : ¬ ((insAt s i).uses && !(here s n i).has (insAt s i)) = true := by
        intro e; rw [if_pos e] at hu; omega
      rw [if_neg t1] at hu
      have t2 : ¬ (here s n i).there < (insAt s i).wide := by
        intro e; rw [if_pos e] at hu; omega
      have t3 : ¬ ((insAt s i).uses && !a.set.getD (insAt s i).r.toNat false) = true := by
        intro e
        apply t1
        simp only [Bool.and_eq_true, Bool.not_eq_true'] at e ⊢
        refine ⟨e.1, ?_⟩
        cases g : (here s n i).has (insAt s i) with
        | false => rfl
        | true =>
          have := hh.set _ g
          rw [e.2] at this; cases this
      rw [if_neg t3, if_neg (by have := hh.there; omega)]
    · intro g hc ha hh
      obtain ⟨w, hw, hg⟩ := over_way a (insAt s i) ho
      have hov := a.over_bd (insAt_bd s i)
      have hj : i + 1 + (a.over (insAt s i)).toNat < n := by
        have := hs.fine i h
        unfold jumps at this
        rw [List.any_eq_false] at this
        have := this _ (List.mem_of_getElem? hw)
        simp only [decide_eq_true_eq] at this
        omega
      refine ih _ _ _ _ _ _ hgo hj (by omega) (ha.does hd h1 h2 _) ?_
      have hd' := hh.does ha m (insAt s i) (hs.fits i h) (insAt_bd s i) w hg
      unfold here
      refine holds_on (i := i + 1) hj _ ?_
      rw [factsAt, if_pos (show ((factsAt s n i).getD i fc0).come = true from hh.come)]
      refine Holds.told _ _ 0 w _ hw (by rw [factsAt_len]; exact hj) ?_
      rw [Nat.zero_add]; exact hd'
theorem safe_goes {s : ByteArray} {n : Nat} {d : ByteArray} {m : Int × Int} (hs : Fine s n) (hd : d.size ≤ 4294967295) (h1 : 0 ≤ m.1 ∧ m.1 ≤ 4294967295) (h2 : 0 ≤ m.2 ∧ m.2 ≤ 4294967295)
    {i c : Nat} {a : St} {v : Int} {z : Nat} {k : Int} (h : Goes s n d m i c a v z k) (hi : i < n) (hc : c ≤ i) (ha : a.Ok) (hh : Holds (here s n i) a d) : k = 0 ∧ 0 ≤ v ∧ v ≤ 2 ∧ 1 ≤ z ∧ z ≤ n := by
  obtain ⟨q, h⟩ := h
  exact safe_goesF hs hd h1 h2 q i c a v z k h hi hc ha hh
theorem holds_start (s : ByteArray) (n : Nat) (hn : 1 ≤ n) (d : ByteArray) : Holds (here s n 0) st0 d := by
  obtain ⟨n, rfl⟩ : ∃ m, n = m + 1 := ⟨n - 1, by omega⟩
  unfold here factsAt
  simp only [List.replicate_succ, List.set_cons_zero, List.getD_cons_zero]
  refine ⟨rfl, fun i hi => ?_, fun i hi => ?_, by simp⟩
  · rcases i with _ | _ | _ | _ | i <;> simp at hi
  · rcases i with _ | _ | _ | _ | i <;> simp at hi
end Go.Proofs.YtclpnafiiobfhabGreatDoor

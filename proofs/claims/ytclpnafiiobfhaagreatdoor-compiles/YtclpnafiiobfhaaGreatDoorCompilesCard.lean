import Derived.Test.YtclpnafiiobfhaaGreatDoorCards
import Derived.Test.YtclpnafiiobfhaaGreatDoorTie
import Derived.Test.YtclpnafiiobfhaaGreatDoorCompiles
import Derived.Test.YtclpnafiiobfhaaGreatDoorShapedLift
import Derived.ShutString
namespace Go.Proofs.YtclpnafiiobfhaaGreatDoor
open Go.ChangeShapes Go.WideShapes Go.ChangeAt Go.RowKit
open Go.ChangeMaps (open_string shut_string)
set_option linter.unusedVariables false

/-- a world in which the library's tables lie -/
def compilesStart (w : World) : World := ({ w with heap := w.heap.modify 0 fun
      | .cells _ t frozen => .cells #[.iface 207 (.agg #[.pointer (some ⟨7, 52, none⟩)])] t frozen
      | o => o } : World)
def compilesWorld (P : Program) (l : List (String × DataW Unit)) (w : World) : World := (compilesStart w).layVars P (l.filter fun x => x.2.handleName?.isNone)
theorem compilesWorld_os (os : Os) : (compilesWorld Tryz.prog Rows.compilesRow.laid (World.holding Tryz.prog os ⟨#[], #[], []⟩)).os = os := World.layVars_os _ _ _
theorem compiles_plain : (Rows.compilesRow.laid.filter fun x => x.2.handleName?.isNone).filter (fun x => ((Rows.compilesRow.laid.filter fun x => x.2.handleName?.isNone).map (·.1)).contains x.1) = (Rows.compilesRow.laid.filter fun x => x.2.handleName?.isNone) := List.filter_eq_self.2 fun x hx => List.contains_iff_mem.2 (List.mem_map.2 ⟨x, hx, rfl⟩)
theorem compiles_rest : (Rows.compilesRow.laid.filter fun x => x.2.handleName?.isNone).filter (fun x => !((Rows.compilesRow.laid.filter fun x => x.2.handleName?.isNone).map (·.1)).contains x.1) = [] := List.filter_eq_nil_iff.2 fun x hx => by rw [List.contains_iff_mem.2 (List.mem_map.2 ⟨x, hx, rfl⟩)]; simp
set_option maxRecDepth 100000 in
theorem compilesWorld_laid (os : Os) (args : Array Value) : laidMetH Tryz.prog Rows.compilesRow.laid ((compilesWorld Tryz.prog Rows.compilesRow.laid (World.holding Tryz.prog os ⟨#[], #[], []⟩)).forCall (fun _ _ => 0) ⟨#[], args, []⟩).memory := by
  refine laidMetH_of_parts ?_ (by kernel_rfl)
  have h : laidMet Tryz.prog (Rows.compilesRow.laid.filter fun x => x.2.handleName?.isNone) (compilesWorld Tryz.prog Rows.compilesRow.laid (World.holding Tryz.prog os ⟨#[], #[], []⟩)) := laidMet_layVars (w0 := compilesStart (World.holding Tryz.prog os ⟨#[], #[], []⟩)) ((Rows.compilesRow.laid.filter fun x => x.2.handleName?.isNone).map (·.1)) [] (by rw [compiles_plain]; rfl) (by rw [compiles_plain]; kernel_rfl) (by rw [compiles_plain]; kernel_rfl) (by rw [compiles_rest]; exact LaidIn.none)
  exact h.of_heap (by simp [World.memory, World.forCall, Input.heap])

set_option maxRecDepth 100000 in
theorem compiles_lifted (os : Os) (started : os.Started) (H : Type) (enc : TypeId × Value → H) :
    ReturnsInHanded {} Tryz.checked os 4 .any (fun w args => (Rows.compilesSpec.pre enc Tryz.prog Tryz.f4 [] false w args ∧ laidMetH Tryz.prog Rows.compilesRow.laid w) ∧ sizedMet enc Tryz.prog Tryz.f4 (OpenSpec.ofChange Rows.compilesSpec) false w args)
      (Rows.compilesSpec.post enc Tryz.prog Tryz.f4 false true false false) := by
  refine returns_shaped_and (C := Tryz.checked) (X := fun w _ => laidMetH Tryz.prog Rows.compilesRow.laid w) (fun _ _ _ hh h => h.of_heap hh) Tryz.own started (by kernel_rfl) Tryz.func4
    (witness_zip (enc := enc) (C := Tryz.checked) (os := os) (X := fun w _ => laidMetH Tryz.prog Rows.compilesRow.laid w) (compilesWorld Tryz.prog Rows.compilesRow.laid (World.holding Tryz.prog os ⟨#[], #[], []⟩)) #[.string ByteArray.empty] 8 (compilesWorld_os os) (World.shaped_of_ZipB (by kernel_rfl) (by kernel_rfl)) (by kernel_rfl) (by kernel_rfl) (by kernel_rfl) (compilesWorld_laid os _)) ?_
  intro W base args ds gs before hval0 hW hL hS
  have hval : ∀ (j : Nat) t v, Tryz.f4.params[j]? = some t → args[j]? = some v → Value.okWide Tryz.prog W .any base t v := hval0
  have hW' := hW
  obtain ⟨p, q, hA0, hV0, rfl, hfz, hnd⟩ := hW
  have hA : DataW.TrodAll enc Tryz.prog W 0 (fun _ => true) true Tryz.f4.params.toList args.toList ds p := hA0
  have hV : DataW.TrodVars enc Tryz.prog W (fun _ => true) [] gs q := hV0
  rw [Tryz.params4] at hA hval
  obtain ⟨v0, vs0, d0, ds0, p0, q0, hargs, rfl, rfl, h0, r0⟩ := trodAll_cons hA
  obtain ⟨rfl, rfl, rfl⟩ := trodAll_nil r0
  obtain rfl : args = #[v0] := by cases args; simp_all
  obtain ⟨a0, rfl, rfl, rfl, w0⟩ := open_string Tryz.underlying9 (hval 0 9 v0 rfl rfl) h0
  have hL2 : laidMet Tryz.prog (Rows.compilesRow.laid.filter fun x => x.2.handleName?.isNone) W ∧ handlesMet Tryz.prog [("errors.errorType", Rows.laid_errors_errorType)] W := hL
  have hg : Laid W := laid_of (show laidMet Tryz.prog [] W ∧ handlesMet Tryz.prog [("errors.errorType", Rows.laid_errors_errorType)] W from ⟨laidMet_nil _ _, hL2.2⟩)
  obtain ⟨rfl, rfl⟩ : gs = [] ∧ q = [] := by
    cases gs with
    | nil => exact ⟨rfl, hV⟩
    | cons g r => exact absurd hV (by intro h; cases h)
  have e1 : Rows.compilesSpec.fn H ([.lit (.string a0.data.toList)] ++ []) = { results := [.lit (.bool true)], args := [.lit (.string a0.data.toList)] } := by simp [Rows.compilesSpec]
  refine (compiles_any a0 W hg (maxl_of hS) w0).mono fun e W' ⟨he, bel⟩ => ?_
  subst he
  refine ⟨_, rfl, _, _, _, [], [], [], hW', ?_, ?_, ?_, bel.frame _, fun h => by cases h⟩
  · rw [e1]; exact trodAll_mk1 (shut_bool Tryz.underlying4 true)
  · rw [e1]; exact (trodAll_cons_mk (shut_string Tryz.underlying9 w0) trodAll_mk0)
  · rw [e1]; rfl

theorem compiles_holds : Rows.CompilesSaid :=
  OpenClaim.holds_of_wide 4 Tryz.f4 rfl rfl rfl rfl rfl rfl rfl ⟨rfl, rfl, rfl, rfl, rfl⟩ rfl rfl rfl rfl rfl (by kernel_rfl) Tryz.func4 (by kernel_rfl)
    (of_decide_eq_true (by kernel_rfl)) (by unfold Func.isWrapper; rw [if_neg (of_decide_eq_false (by kernel_rfl))]; exact ⟨rfl, rfl⟩)
    (fun os started H enc _ => compiles_lifted os started H enc)

theorem compiles_card : Rows.CompilesCardSaid :=
  Claim7.holds_tied_plain_at .later [] _ _ _ _
    compiles_holds (fun _ h => by cases h) (by kernel_rfl) (fun _ h => by cases h) compiles_row_tie rfl ⟨rfl, rfl⟩ (by kernel_rfl) rfl
    (fun f fn hf hfn => by
      obtain rfl : f = 4 := Option.some.inj ((show Tryz.prog.funcNamed "firewall/firewalllaw.Compiles" = some 4 by kernel_rfl).symm.trans hf) |>.symm
      obtain rfl : fn = Tryz.f4 := (Option.some.inj (Tryz.func4.symm.trans hfn)).symm
      exact ⟨by kernel_rfl, fun j t ht => by
        rw [Tryz.params4] at ht
        obtain rfl : t = 9 := by
          rcases j with _ | j
          · simpa using ht.symm
          · simp at ht
        exact (show Tryz.prog.wantsStandIn 9 = false by kernel_rfl)⟩)
    (by kernel_rfl)
#print axioms compiles_card
end Go.Proofs.YtclpnafiiobfhaaGreatDoor

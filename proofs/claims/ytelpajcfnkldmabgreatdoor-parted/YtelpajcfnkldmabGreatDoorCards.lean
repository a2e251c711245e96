/-
  DERIVED. GIVEN WITH THE SEED: THE CARDS: each row of YtelpajcfnkldmabGreatDoorRows.lean that lists a variable, with what it lists TIED to the program's text (the seventh form; the later family's looks); each row that meets fmt, with fmt's text TOLD by the authors' own Lean function (tested against real Go, not proved from fmt's source: count such statements apart). THE CARD IS WHAT COUNTS. Prove the row's statement (the work); the ties are given (YtelpajcfnkldmabGreatDoorTie.lean); close each card by the builder's one call (the guide's Derived/Test/ToyasCard.lean, 'card_holds'). Laid BY PROGRAM, IN A SANDBOX (cutbox-door.mjs). By AI agents, Wed Nov 11 2026. No macro, syntax, notation, axiom, sorry.
-/
import Derived.Test.YtelpajcfnkldmabGreatDoorRows
import GoSem.ClaimSeven
namespace Go.Proofs.YtelpajcfnkldmabGreatDoor
namespace Rows

/-- THE TIED CARD OF 'firewallkeep.Reprinted'. -/
def reprintedCard : Claim7 := { stood := { row := reprintedRow, standIns := [], harness := (true, "daf9a02bf418d5be996a7eaae9856cbb47d7df7b5bd8d9b9a987d6c3bba58403"), looks := true }, kinds := [], alts := [], laidByText := true, laidKinds := [.data, .handle, .pinned], laidTests := true, laidLooks := .later }
def ReprintedCardSaid : Prop := Claim7.holds Tryz.pinned (.plain (OpenSpec.ofChange reprintedSpec)) reprintedCard

/-- THE TIED CARD OF 'firewallkeep.First'. -/
def firstCard : Claim7 := { stood := { row := firstRow, standIns := [], harness := (true, "daf9a02bf418d5be996a7eaae9856cbb47d7df7b5bd8d9b9a987d6c3bba58403"), looks := true }, kinds := [], alts := [], laidByText := true, laidKinds := [.data, .handle, .pinned], laidTests := true, laidLooks := .later }
def FirstCardSaid : Prop := Claim7.holds Tryz.pinned (.plain (OpenSpec.ofChange firstSpec)) firstCard

/-- THE TIED CARD OF 'firewallkeep.Parted'. -/
def partedCard : Claim7 := { stood := { row := partedRow, standIns := [], harness := (true, "daf9a02bf418d5be996a7eaae9856cbb47d7df7b5bd8d9b9a987d6c3bba58403"), looks := true }, kinds := [], alts := [], laidByText := true, laidKinds := [.data, .handle, .pinned], laidTests := true, laidLooks := .later }
def PartedCardSaid : Prop := Claim7.holds Tryz.pinned (.plain (OpenSpec.ofChange partedSpec)) partedCard

/-- THE SECOND FORM's CARD OF 'firewallkeep.Reprinted'. -/
def reprintedUptoCard : Claim7 := { stood := { row := reprintedUptoRow, standIns := [], harness := (true, "daf9a02bf418d5be996a7eaae9856cbb47d7df7b5bd8d9b9a987d6c3bba58403"), looks := true }, kinds := [], alts := [], laidByText := true, laidKinds := [.data, .handle, .pinned], laidTests := true, laidLooks := .later }
def ReprintedUptoCardSaid : Prop := Claim7.holds Tryz.pinned (.plain (OpenSpec.upto reprintedSpec)) reprintedUptoCard

/-- THE SECOND FORM's CARD OF 'firewallkeep.First'. -/
def firstUptoCard : Claim7 := { stood := { row := firstUptoRow, standIns := [], harness := (true, "daf9a02bf418d5be996a7eaae9856cbb47d7df7b5bd8d9b9a987d6c3bba58403"), looks := true }, kinds := [], alts := [], laidByText := true, laidKinds := [.data, .handle, .pinned], laidTests := true, laidLooks := .later }
def FirstUptoCardSaid : Prop := Claim7.holds Tryz.pinned (.plain (OpenSpec.upto firstSpec)) firstUptoCard

/-- THE SECOND FORM's CARD OF 'firewallkeep.Parted'. -/
def partedUptoCard : Claim7 := { stood := { row := partedUptoRow, standIns := [], harness := (true, "daf9a02bf418d5be996a7eaae9856cbb47d7df7b5bd8d9b9a987d6c3bba58403"), looks := true }, kinds := [], alts := [], laidByText := true, laidKinds := [.data, .handle, .pinned], laidTests := true, laidLooks := .later }
def PartedUptoCardSaid : Prop := Claim7.holds Tryz.pinned (.plain (OpenSpec.upto partedSpec)) partedUptoCard
end Rows
end Go.Proofs.YtelpajcfnkldmabGreatDoor

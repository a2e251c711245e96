/-
  DERIVED. GIVEN WITH THE SEED: THE CARDS: each row of YtclpnafiiobfhabGreatDoorRows.lean that lists a variable, with what it lists TIED to the program's text (the seventh form; the later family's looks); each row that meets fmt, with fmt's text TOLD by the authors' own Lean function (tested against real Go, not proved from fmt's source: count such statements apart). THE CARD IS WHAT COUNTS. Prove the row's statement (the work); the ties are given (YtclpnafiiobfhabGreatDoorTie.lean); close each card by the builder's one call (the guide's Derived/Test/ToyasCard.lean, 'card_holds'). Laid BY PROGRAM, IN A SANDBOX (cutbox-door.mjs). By AI agents, Wed Nov 11 2026. No macro, syntax, notation, axiom, sorry.
-/
import Derived.Test.YtclpnafiiobfhabGreatDoorRows
import GoSem.ClaimSeven
namespace Go.Proofs.YtclpnafiiobfhabGreatDoor
namespace Rows

/-- THE TIED CARD OF 'firewallkeep.Reprinted'. -/
def reprintedCard : Claim7 := { stood := { row := reprintedRow, standIns := [], harness := (true, "b34782ffba56606a88cff5980d5c5b0ed1a41f3c41df8842e15e4eb971fbc965"), looks := true }, kinds := [], alts := [], laidByText := true, laidKinds := [.data, .handle, .pinned], laidTests := true, laidLooks := .later }
def ReprintedCardSaid : Prop := Claim7.holds Tryz.pinned (.plain (OpenSpec.ofChange reprintedSpec)) reprintedCard

/-- THE TIED CARD OF 'firewallkeep.First'. -/
def firstCard : Claim7 := { stood := { row := firstRow, standIns := [], harness := (true, "b34782ffba56606a88cff5980d5c5b0ed1a41f3c41df8842e15e4eb971fbc965"), looks := true }, kinds := [], alts := [], laidByText := true, laidKinds := [.data, .handle, .pinned], laidTests := true, laidLooks := .later }
def FirstCardSaid : Prop := Claim7.holds Tryz.pinned (.plain (OpenSpec.ofChange firstSpec)) firstCard

/-- THE TIED CARD OF 'firewallkeep.Parted'. -/
def partedCard : Claim7 := { stood := { row := partedRow, standIns := [], harness := (true, "b34782ffba56606a88cff5980d5c5b0ed1a41f3c41df8842e15e4eb971fbc965"), looks := true }, kinds := [], alts := [], laidByText := true, laidKinds := [.data, .handle, .pinned], laidTests := true, laidLooks := .later }
def PartedCardSaid : Prop := Claim7.holds Tryz.pinned (.plain (OpenSpec.ofChange partedSpec)) partedCard

/-- THE TIED CARD OF 'firewallkeep.Kept'. -/
def keptCard : Claim7 := { stood := { row := keptRow, standIns := [], harness := (true, "b34782ffba56606a88cff5980d5c5b0ed1a41f3c41df8842e15e4eb971fbc965"), looks := true }, kinds := [], alts := [], laidByText := true, laidKinds := [.data, .handle, .pinned], laidTests := true, laidLooks := .later }
def KeptCardSaid : Prop := Claim7.holds Tryz.pinned (.plain (OpenSpec.ofChange keptSpec)) keptCard

/-- THE TIED CARD OF 'firewallkeep.Spoken'. -/
def spokenCard : Claim7 := { stood := { row := spokenRow, standIns := [], harness := (true, "b34782ffba56606a88cff5980d5c5b0ed1a41f3c41df8842e15e4eb971fbc965"), looks := true }, kinds := [], alts := [], laidByText := true, laidKinds := [.data, .handle, .pinned], laidTests := true, laidLooks := .later }
def SpokenCardSaid : Prop := Claim7.holds Tryz.pinned (.plain (OpenSpec.ofChange spokenSpec)) spokenCard

/-- THE SECOND FORM's CARD OF 'firewallkeep.Reprinted'. -/
def reprintedUptoCard : Claim7 := { stood := { row := reprintedUptoRow, standIns := [], harness := (true, "b34782ffba56606a88cff5980d5c5b0ed1a41f3c41df8842e15e4eb971fbc965"), looks := true }, kinds := [], alts := [], laidByText := true, laidKinds := [.data, .handle, .pinned], laidTests := true, laidLooks := .later }
def ReprintedUptoCardSaid : Prop := Claim7.holds Tryz.pinned (.plain (OpenSpec.upto reprintedSpec)) reprintedUptoCard

/-- THE SECOND FORM's CARD OF 'firewallkeep.First'. -/
def firstUptoCard : Claim7 := { stood := { row := firstUptoRow, standIns := [], harness := (true, "b34782ffba56606a88cff5980d5c5b0ed1a41f3c41df8842e15e4eb971fbc965"), looks := true }, kinds := [], alts := [], laidByText := true, laidKinds := [.data, .handle, .pinned], laidTests := true, laidLooks := .later }
def FirstUptoCardSaid : Prop := Claim7.holds Tryz.pinned (.plain (OpenSpec.upto firstSpec)) firstUptoCard

/-- THE SECOND FORM's CARD OF 'firewallkeep.Parted'. -/
def partedUptoCard : Claim7 := { stood := { row := partedUptoRow, standIns := [], harness := (true, "b34782ffba56606a88cff5980d5c5b0ed1a41f3c41df8842e15e4eb971fbc965"), looks := true }, kinds := [], alts := [], laidByText := true, laidKinds := [.data, .handle, .pinned], laidTests := true, laidLooks := .later }
def PartedUptoCardSaid : Prop := Claim7.holds Tryz.pinned (.plain (OpenSpec.upto partedSpec)) partedUptoCard

/-- THE SECOND FORM's CARD OF 'firewallkeep.Kept'. -/
def keptUptoCard : Claim7 := { stood := { row := keptUptoRow, standIns := [], harness := (true, "b34782ffba56606a88cff5980d5c5b0ed1a41f3c41df8842e15e4eb971fbc965"), looks := true }, kinds := [], alts := [], laidByText := true, laidKinds := [.data, .handle, .pinned], laidTests := true, laidLooks := .later }
def KeptUptoCardSaid : Prop := Claim7.holds Tryz.pinned (.plain (OpenSpec.upto keptSpec)) keptUptoCard

/-- THE SECOND FORM's CARD OF 'firewallkeep.Spoken'. -/
def spokenUptoCard : Claim7 := { stood := { row := spokenUptoRow, standIns := [], harness := (true, "b34782ffba56606a88cff5980d5c5b0ed1a41f3c41df8842e15e4eb971fbc965"), looks := true }, kinds := [], alts := [], laidByText := true, laidKinds := [.data, .handle, .pinned], laidTests := true, laidLooks := .later }
def SpokenUptoCardSaid : Prop := Claim7.holds Tryz.pinned (.plain (OpenSpec.upto spokenSpec)) spokenUptoCard
end Rows
end Go.Proofs.YtclpnafiiobfhabGreatDoor

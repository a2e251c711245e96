import Derived.Test.YtclpnafiiobfhabGreatDoorPlain
import Derived.WalkKit
import Derived.WalkSpells
import Derived.WalkLawsBesides
import Derived.Deep.QuietTactic
import Derived.BigQuiet
namespace Go.Proofs.YtclpnafiiobfhabGreatDoor
open Go.RowKit
set_option linter.unusedVariables false
set_option linter.unusedSimpArgs false

/-- a slice's bytes lie in memory -/
def Row (w : World) (b off : Nat) (s : ByteArray) : Prop := ∀ i, i < s.size → w.cell? ⟨b, off + i, none⟩ = some (.int .u8 (nth s i))
end Go.Proofs.YtclpnafiiobfhabGreatDoor

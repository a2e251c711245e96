import Derived.Test.YtclpnafiiobfhaaGreatDoorQ28
import Derived.Test.YtclpnafiiobfhaaGreatDoorQ29
set_option linter.unusedVariables false
set_option linter.unusedSimpArgs false
namespace Go.Proofs.YtclpnafiiobfhaaGreatDoor
open Go.RowKit
theorem zEv {T mb g n cap room births:Nat} {f:Nat->En} (w:World) (h:zAK w T mb (.slice (some ⟨g,0,none⟩) n cap) room births n f) (i j:Nat) (hi:i<n) (hj:j<n):
 Calls Tryz.prog 157 #[.pointer (some ⟨T,0,none⟩),.int .i64 (i:Int),.int .i64 (j:Int)] w fun e w'=>e= .returned (.tuple #[])/\zAK w' T mb (.slice (some ⟨g,0,none⟩) n cap) room births n (Hp.swp f i j)/\Trn (Ows T mb (.slice (some ⟨g,0,none⟩) n cap)) w w':=by
 by_cases e:i=j
 ·subst e
  exact zNF T mb g n cap room births i f _ _ _ _ _ _ _ _ _ _ _ _ _ _ w h hi rfl
 ·exact zQX T mb g n cap room births i j f _ _ _ _ _ _ _ _ _ _ _ _ _ _ _ _ _ _ _ _ _ _ _ _ _ _ _ _ w h hi rfl hj e rfl
end Go.Proofs.YtclpnafiiobfhaaGreatDoor

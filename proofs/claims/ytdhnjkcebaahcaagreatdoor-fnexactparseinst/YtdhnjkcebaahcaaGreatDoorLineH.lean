import Derived.Test.YtdhnjkcebaahcaaGreatDoorAccL
import Derived.Test.YtdhnjkcebaahcaaGreatDoorPlaceS
import Derived.Test.YtdhnjkcebaahcaaGreatDoorTagT
import Derived.Test.YtdhnjkcebaahcaaGreatDoorKindS
namespace Go.Proofs.YtdhnjkcebaahcaaGreatDoor.Parse
open Go Go.RowKit Go.Proofs.YtdhnjkcebaahcaaGreatDoor.Mem Go.Proofs.YtdhnjkcebaahcaaGreatDoor.Valid
set_option linter.unusedVariables false

theorem nodesN (a1 a2 a3 : Option Addr) (c1 c2 c3 N1 N2 N3 : Nat) (w : World) (h1 : N1 ≤ 1048576) (h2 : N2 ≤ 1048576) :
    Calls Tryz.prog 28 #[.agg #[.slice a1 N1 c1, .slice a2 N2 c2, .slice a3 N3 c3]] w fun e w' => e = .returned (.int .i64 ((N1 : Int) + 2 * (N2 : Int))) ∧ Below w.heap.size w w' :=
  nodesS a1 a2 a3 c1 c2 c3 ⟨N1, N2, N3, fun _ => ⟨0, 0, 0, 0, 0, 0, 0⟩, fun _ => ⟨0, 0, 0, 0, 0, 0, 0, 0, 0, 0, 0, 0⟩, fun _ => ⟨0, 0, 0⟩⟩ w h1 h2
end Go.Proofs.YtdhnjkcebaahcaaGreatDoor.Parse

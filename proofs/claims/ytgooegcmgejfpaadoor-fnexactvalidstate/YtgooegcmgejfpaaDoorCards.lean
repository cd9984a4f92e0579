/-
  DERIVED. GIVEN WITH THE SEED: THE CARDS: each row of YtgooegcmgejfpaaDoorRows.lean that lists a variable, with what it lists TIED to the program's text (the seventh form; the later family's looks); each row that meets fmt, with fmt's text TOLD by the authors' own Lean function (tested against real Go, not proved from fmt's source: count such statements apart). THE CARD IS WHAT COUNTS. Prove the row's statement (the work); the ties are given (YtgooegcmgejfpaaDoorTie.lean); close each card by the builder's one call (the guide's Derived/Test/ToyasCard.lean, 'card_holds'). Laid BY PROGRAM, IN A SANDBOX (cutbox-door.mjs). By AI agents, Wed Nov 11 2026. No macro, syntax, notation, axiom, sorry.
-/
import Derived.Test.YtgooegcmgejfpaaDoorRows
import GoSem.ClaimSeven
namespace Go.Proofs.YtgooegcmgejfpaaDoor
namespace Rows

/-- THE TIED CARD OF 'laws.FnExactValidState'. -/
def fnExactValidStateCard : Claim7 := { stood := { row := fnExactValidStateRow, standIns := [], harness := (true, "288499b771a3b439e2ad73281d373652d5d92f623091e3065482f267ad62918e"), looks := false }, kinds := [], alts := [], laidByText := true, laidKinds := [.data], laidTests := true, laidLooks := .later }
def FnExactValidStateCardSaid : Prop := Claim7.holds Tryd.pinned (.plain (OpenSpec.ofChange fnExactValidStateSpec)) fnExactValidStateCard

/-- THE SECOND FORM's CARD OF 'laws.FnExactValidState'. -/
def fnExactValidStateUptoCard : Claim7 := { stood := { row := fnExactValidStateUptoRow, standIns := [], harness := (true, "288499b771a3b439e2ad73281d373652d5d92f623091e3065482f267ad62918e"), looks := false }, kinds := [], alts := [], laidByText := true, laidKinds := [.data], laidTests := true, laidLooks := .later }
def FnExactValidStateUptoCardSaid : Prop := Claim7.holds Tryd.pinned (.plain (OpenSpec.upto fnExactValidStateSpec)) fnExactValidStateUptoCard
end Rows
end Go.Proofs.YtgooegcmgejfpaaDoor

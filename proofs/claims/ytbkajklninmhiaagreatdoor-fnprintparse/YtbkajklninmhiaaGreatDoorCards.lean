/-
  DERIVED. GIVEN WITH THE SEED: THE CARDS: each row of YtbkajklninmhiaaGreatDoorRows.lean that lists a variable, with what it lists TIED to the program's text (the seventh form; the later family's looks); each row that meets fmt, with fmt's text TOLD by the authors' own Lean function (tested against real Go, not proved from fmt's source: count such statements apart). THE CARD IS WHAT COUNTS. Prove the row's statement (the work); the ties are given (YtbkajklninmhiaaGreatDoorTie.lean); close each card by the builder's one call (the guide's Derived/Test/ToyasCard.lean, 'card_holds'). Laid BY PROGRAM, IN A SANDBOX (cutbox-door.mjs). By AI agents, Wed Nov 11 2026. No macro, syntax, notation, axiom, sorry.
-/
import Derived.Test.YtbkajklninmhiaaGreatDoorRows
import GoSem.ClaimSeven
namespace Go.Proofs.YtbkajklninmhiaaGreatDoor
namespace Rows

/-- THE TIED CARD OF 'laws.FnPrintParse'. -/
def fnPrintParseCard : Claim7 := { stood := { row := fnPrintParseRow, standIns := [], harness := (true, "389de2a0e5faae4f49314831558c3c7d37cdff82bccac166548d9509b1709487"), looks := true }, kinds := [], alts := [], laidByText := true, laidKinds := [.data, .data, .data, .data, .data, .data, .data], laidTests := true, laidLooks := .later }
def FnPrintParseCardSaid : Prop := Claim7.holds Tryz.pinned (.plain (OpenSpec.ofChange fnPrintParseSpec)) fnPrintParseCard

/-- THE TIED CARD OF 'laws.FnReformat'. -/
def fnReformatCard : Claim7 := { stood := { row := fnReformatRow, standIns := [], harness := (true, "389de2a0e5faae4f49314831558c3c7d37cdff82bccac166548d9509b1709487"), looks := true }, kinds := [], alts := [], laidByText := true, laidKinds := [.data, .data, .data, .data, .data, .data, .data], laidTests := true, laidLooks := .later }
def FnReformatCardSaid : Prop := Claim7.holds Tryz.pinned (.plain (OpenSpec.ofChange fnReformatSpec)) fnReformatCard

/-- THE SECOND FORM's CARD OF 'laws.FnPrintParse'. -/
def fnPrintParseUptoCard : Claim7 := { stood := { row := fnPrintParseUptoRow, standIns := [], harness := (true, "389de2a0e5faae4f49314831558c3c7d37cdff82bccac166548d9509b1709487"), looks := true }, kinds := [], alts := [], laidByText := true, laidKinds := [.data, .data, .data, .data, .data, .data, .data], laidTests := true, laidLooks := .later }
def FnPrintParseUptoCardSaid : Prop := Claim7.holds Tryz.pinned (.plain (OpenSpec.upto fnPrintParseSpec)) fnPrintParseUptoCard

/-- THE SECOND FORM's CARD OF 'laws.FnReformat'. -/
def fnReformatUptoCard : Claim7 := { stood := { row := fnReformatUptoRow, standIns := [], harness := (true, "389de2a0e5faae4f49314831558c3c7d37cdff82bccac166548d9509b1709487"), looks := true }, kinds := [], alts := [], laidByText := true, laidKinds := [.data, .data, .data, .data, .data, .data, .data], laidTests := true, laidLooks := .later }
def FnReformatUptoCardSaid : Prop := Claim7.holds Tryz.pinned (.plain (OpenSpec.upto fnReformatSpec)) fnReformatUptoCard
end Rows
end Go.Proofs.YtbkajklninmhiaaGreatDoor

/-
  DERIVED. GIVEN WITH THE SEED: THE CARDS: each row of YthobdaeglhdhnaaGreatDoorRows.lean that lists a variable, with what it lists TIED to the program's text (the seventh form; the later family's looks); each row that meets fmt, with fmt's text TOLD by the authors' own Lean function (tested against real Go, not proved from fmt's source: count such statements apart). THE CARD IS WHAT COUNTS. Prove the row's statement (the work); the ties are given (YthobdaeglhdhnaaGreatDoorTie.lean); close each card by the builder's one call (the guide's Derived/Test/ToyasCard.lean, 'card_holds'). Laid BY PROGRAM, IN A SANDBOX (cutbox-door.mjs). By AI agents, Wed Nov 11 2026. No macro, syntax, notation, axiom, sorry.
-/
import Derived.Test.YthobdaeglhdhnaaGreatDoorRows
import GoSem.ClaimSeven
namespace Go.Proofs.YthobdaeglhdhnaaGreatDoor
namespace Rows

/-- THE TIED CARD OF 'laws.FnExactPrintProg'. -/
def fnExactPrintProgCard : Claim7 := { stood := { row := fnExactPrintProgRow, standIns := [], harness := (true, "1108887b041b7fbee10bd4358be5e9176bcfef6c5730126b6e3105621e06dfb0"), looks := true }, kinds := [], alts := [], laidByText := true, laidKinds := [.data, .data, .data, .data, .data, .data, .data], laidTests := true, laidLooks := .later }
def FnExactPrintProgCardSaid : Prop := Claim7.holds Tryz.pinned (.plain (OpenSpec.ofChange fnExactPrintProgSpec)) fnExactPrintProgCard

/-- THE SECOND FORM's CARD OF 'laws.FnExactPrintProg'. -/
def fnExactPrintProgUptoCard : Claim7 := { stood := { row := fnExactPrintProgUptoRow, standIns := [], harness := (true, "1108887b041b7fbee10bd4358be5e9176bcfef6c5730126b6e3105621e06dfb0"), looks := true }, kinds := [], alts := [], laidByText := true, laidKinds := [.data, .data, .data, .data, .data, .data, .data], laidTests := true, laidLooks := .later }
def FnExactPrintProgUptoCardSaid : Prop := Claim7.holds Tryz.pinned (.plain (OpenSpec.upto fnExactPrintProgSpec)) fnExactPrintProgUptoCard
end Rows
end Go.Proofs.YthobdaeglhdhnaaGreatDoor

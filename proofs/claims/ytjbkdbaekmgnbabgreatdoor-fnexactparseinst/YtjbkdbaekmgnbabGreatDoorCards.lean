/-
  DERIVED. GIVEN WITH THE SEED: THE CARDS: each row of YtjbkdbaekmgnbabGreatDoorRows.lean that lists a variable, with what it lists TIED to the program's text (the seventh form; the later family's looks); each row that meets fmt, with fmt's text TOLD by the authors' own Lean function (tested against real Go, not proved from fmt's source: count such statements apart). THE CARD IS WHAT COUNTS. Prove the row's statement (the work); the ties are given (YtjbkdbaekmgnbabGreatDoorTie.lean); close each card by the builder's one call (the guide's Derived/Test/ToyasCard.lean, 'card_holds'). Laid BY PROGRAM, IN A SANDBOX (cutbox-door.mjs). By AI agents, Wed Nov 11 2026. No macro, syntax, notation, axiom, sorry.
-/
import Derived.Test.YtjbkdbaekmgnbabGreatDoorRows
import GoSem.ClaimSeven
namespace Go.Proofs.YtjbkdbaekmgnbabGreatDoor
namespace Rows

/-- THE TIED CARD OF 'laws.FnExactParseInst'. -/
def fnExactParseInstCard : Claim7 := { stood := { row := fnExactParseInstRow, standIns := [], harness := (true, "63c419de5f5db314e667b011b6b78ecebac922b8cab232394e7bd3504a6bf3a3"), looks := true }, kinds := [], alts := [], laidByText := true, laidKinds := [.handle], laidTests := true, laidLooks := .later }
def FnExactParseInstCardSaid : Prop := Claim7.holds Tryz.pinned (.plain (OpenSpec.ofChange fnExactParseInstSpec)) fnExactParseInstCard

/-- THE TIED CARD OF 'laws.FnExactPrintProg'. -/
def fnExactPrintProgCard : Claim7 := { stood := { row := fnExactPrintProgRow, standIns := [], harness := (true, "63c419de5f5db314e667b011b6b78ecebac922b8cab232394e7bd3504a6bf3a3"), looks := true }, kinds := [], alts := [], laidByText := true, laidKinds := [.data, .data, .data, .data, .data, .data, .data], laidTests := true, laidLooks := .later }
def FnExactPrintProgCardSaid : Prop := Claim7.holds Tryz.pinned (.plain (OpenSpec.ofChange fnExactPrintProgSpec)) fnExactPrintProgCard

/-- THE SECOND FORM's CARD OF 'laws.FnExactParseInst'. -/
def fnExactParseInstUptoCard : Claim7 := { stood := { row := fnExactParseInstUptoRow, standIns := [], harness := (true, "63c419de5f5db314e667b011b6b78ecebac922b8cab232394e7bd3504a6bf3a3"), looks := true }, kinds := [], alts := [], laidByText := true, laidKinds := [.handle], laidTests := true, laidLooks := .later }
def FnExactParseInstUptoCardSaid : Prop := Claim7.holds Tryz.pinned (.plain (OpenSpec.upto fnExactParseInstSpec)) fnExactParseInstUptoCard

/-- THE SECOND FORM's CARD OF 'laws.FnExactPrintProg'. -/
def fnExactPrintProgUptoCard : Claim7 := { stood := { row := fnExactPrintProgUptoRow, standIns := [], harness := (true, "63c419de5f5db314e667b011b6b78ecebac922b8cab232394e7bd3504a6bf3a3"), looks := true }, kinds := [], alts := [], laidByText := true, laidKinds := [.data, .data, .data, .data, .data, .data, .data], laidTests := true, laidLooks := .later }
def FnExactPrintProgUptoCardSaid : Prop := Claim7.holds Tryz.pinned (.plain (OpenSpec.upto fnExactPrintProgSpec)) fnExactPrintProgUptoCard
end Rows
end Go.Proofs.YtjbkdbaekmgnbabGreatDoor

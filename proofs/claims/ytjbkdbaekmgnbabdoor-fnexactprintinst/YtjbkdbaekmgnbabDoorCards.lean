/-
  DERIVED. GIVEN WITH THE SEED: THE CARDS: each row of YtjbkdbaekmgnbabDoorRows.lean that lists a variable, with what it lists TIED to the program's text (the seventh form; the later family's looks); each row that meets fmt, with fmt's text TOLD by the authors' own Lean function (tested against real Go, not proved from fmt's source: count such statements apart). THE CARD IS WHAT COUNTS. Prove the row's statement (the work); the ties are given (YtjbkdbaekmgnbabDoorTie.lean); close each card by the builder's one call (the guide's Derived/Test/ToyasCard.lean, 'card_holds'). Laid BY PROGRAM, IN A SANDBOX (cutbox-door.mjs). By AI agents, Wed Nov 11 2026. No macro, syntax, notation, axiom, sorry.
-/
import Derived.Test.YtjbkdbaekmgnbabDoorRows
import GoSem.ClaimSeven
namespace Go.Proofs.YtjbkdbaekmgnbabDoor
namespace Rows

/-- THE TIED CARD OF 'laws.FnExactPrintInst'. -/
def fnExactPrintInstCard : Claim7 := { stood := { row := fnExactPrintInstRow, standIns := [], harness := (true, "8da6f82b0c27a29bf1cf5d89df3480acd01e0fdca25dc9a69e73b9f5ab82d11f"), looks := true }, kinds := [], alts := [], laidByText := true, laidKinds := [.data, .data, .data], laidTests := true, laidLooks := .later }
def FnExactPrintInstCardSaid : Prop := Claim7.holds Tryd.pinned (.plain (OpenSpec.ofChange fnExactPrintInstSpec)) fnExactPrintInstCard

/-- THE TIED CARD OF 'laws.FnExactValidProg'. -/
def fnExactValidProgCard : Claim7 := { stood := { row := fnExactValidProgRow, standIns := [], harness := (true, "8da6f82b0c27a29bf1cf5d89df3480acd01e0fdca25dc9a69e73b9f5ab82d11f"), looks := true }, kinds := [], alts := [], laidByText := true, laidKinds := [.data, .data, .data], laidTests := true, laidLooks := .later }
def FnExactValidProgCardSaid : Prop := Claim7.holds Tryd.pinned (.plain (OpenSpec.ofChange fnExactValidProgSpec)) fnExactValidProgCard

/-- THE TIED CARD OF 'laws.FnExactParseProg'. -/
def fnExactParseProgCard : Claim7 := { stood := { row := fnExactParseProgRow, standIns := [], harness := (true, "8da6f82b0c27a29bf1cf5d89df3480acd01e0fdca25dc9a69e73b9f5ab82d11f"), looks := true }, kinds := [], alts := [], laidByText := true, laidKinds := [.data, .data], laidTests := true, laidLooks := .later }
def FnExactParseProgCardSaid : Prop := Claim7.holds Tryd.pinned (.plain (OpenSpec.ofChange fnExactParseProgSpec)) fnExactParseProgCard

/-- THE SECOND FORM's CARD OF 'laws.FnExactPrintInst'. -/
def fnExactPrintInstUptoCard : Claim7 := { stood := { row := fnExactPrintInstUptoRow, standIns := [], harness := (true, "8da6f82b0c27a29bf1cf5d89df3480acd01e0fdca25dc9a69e73b9f5ab82d11f"), looks := true }, kinds := [], alts := [], laidByText := true, laidKinds := [.data, .data, .data], laidTests := true, laidLooks := .later }
def FnExactPrintInstUptoCardSaid : Prop := Claim7.holds Tryd.pinned (.plain (OpenSpec.upto fnExactPrintInstSpec)) fnExactPrintInstUptoCard

/-- THE SECOND FORM's CARD OF 'laws.FnExactValidProg'. -/
def fnExactValidProgUptoCard : Claim7 := { stood := { row := fnExactValidProgUptoRow, standIns := [], harness := (true, "8da6f82b0c27a29bf1cf5d89df3480acd01e0fdca25dc9a69e73b9f5ab82d11f"), looks := true }, kinds := [], alts := [], laidByText := true, laidKinds := [.data, .data, .data], laidTests := true, laidLooks := .later }
def FnExactValidProgUptoCardSaid : Prop := Claim7.holds Tryd.pinned (.plain (OpenSpec.upto fnExactValidProgSpec)) fnExactValidProgUptoCard

/-- THE SECOND FORM's CARD OF 'laws.FnExactParseProg'. -/
def fnExactParseProgUptoCard : Claim7 := { stood := { row := fnExactParseProgUptoRow, standIns := [], harness := (true, "8da6f82b0c27a29bf1cf5d89df3480acd01e0fdca25dc9a69e73b9f5ab82d11f"), looks := true }, kinds := [], alts := [], laidByText := true, laidKinds := [.data, .data], laidTests := true, laidLooks := .later }
def FnExactParseProgUptoCardSaid : Prop := Claim7.holds Tryd.pinned (.plain (OpenSpec.upto fnExactParseProgSpec)) fnExactParseProgUptoCard
end Rows
end Go.Proofs.YtjbkdbaekmgnbabDoor

/-
  DERIVED. GIVEN WITH THE SEED: THE CARDS: each row of YtcnmeogjdkpmkabDoorRows.lean that lists a variable, with what it lists TIED to the program's text (the seventh form; the later family's looks); each row that meets fmt, with fmt's text TOLD by the authors' own Lean function (tested against real Go, not proved from fmt's source: count such statements apart). THE CARD IS WHAT COUNTS. Prove the row's statement (the work); the ties are given (YtcnmeogjdkpmkabDoorTie.lean); close each card by the builder's one call (the guide's Derived/Test/ToyasCard.lean, 'card_holds'). Laid BY PROGRAM, IN A SANDBOX (cutbox-door.mjs). By AI agents, Wed Nov 11 2026. No macro, syntax, notation, axiom, sorry.
-/
import Derived.Test.YtcnmeogjdkpmkabDoorRows
import GoSem.ClaimSeven
namespace Go.Proofs.YtcnmeogjdkpmkabDoor
namespace Rows

/-- THE TIED CARD OF 'laws.FnExactPrintInst'. -/
def fnExactPrintInstCard : Claim7 := { stood := { row := fnExactPrintInstRow, standIns := [], harness := (true, "7a9134576490de9103c1bca119ceea51dae74d5f3be108833ddb16da788c808e"), looks := true }, kinds := [], alts := [], laidByText := true, laidKinds := [.data, .data, .data], laidTests := true, laidLooks := .later }
def FnExactPrintInstCardSaid : Prop := Claim7.holds Tryd.pinned (.plain (OpenSpec.ofChange fnExactPrintInstSpec)) fnExactPrintInstCard

/-- THE TIED CARD OF 'laws.FnExactValidProg'. -/
def fnExactValidProgCard : Claim7 := { stood := { row := fnExactValidProgRow, standIns := [], harness := (true, "7a9134576490de9103c1bca119ceea51dae74d5f3be108833ddb16da788c808e"), looks := true }, kinds := [], alts := [], laidByText := true, laidKinds := [.data, .data, .data], laidTests := true, laidLooks := .later }
def FnExactValidProgCardSaid : Prop := Claim7.holds Tryd.pinned (.plain (OpenSpec.ofChange fnExactValidProgSpec)) fnExactValidProgCard

/-- THE TIED CARD OF 'laws.FnExactParseProg'. -/
def fnExactParseProgCard : Claim7 := { stood := { row := fnExactParseProgRow, standIns := [], harness := (true, "7a9134576490de9103c1bca119ceea51dae74d5f3be108833ddb16da788c808e"), looks := true }, kinds := [], alts := [], laidByText := true, laidKinds := [.data, .data], laidTests := true, laidLooks := .later }
def FnExactParseProgCardSaid : Prop := Claim7.holds Tryd.pinned (.plain (OpenSpec.ofChange fnExactParseProgSpec)) fnExactParseProgCard

/-- THE TIED CARD OF 'laws.FnExactCheck'. -/
def fnExactCheckCard : Claim7 := { stood := { row := fnExactCheckRow, standIns := [], harness := (true, "7a9134576490de9103c1bca119ceea51dae74d5f3be108833ddb16da788c808e"), looks := true }, kinds := [], alts := [], laidByText := true, laidKinds := [.data, .data, .data, .data, .data], laidTests := true, laidLooks := .later }
def FnExactCheckCardSaid : Prop := Claim7.holds Tryd.pinned (.plain (OpenSpec.ofChange fnExactCheckSpec)) fnExactCheckCard

/-- THE SECOND FORM's CARD OF 'laws.FnExactPrintInst'. -/
def fnExactPrintInstUptoCard : Claim7 := { stood := { row := fnExactPrintInstUptoRow, standIns := [], harness := (true, "7a9134576490de9103c1bca119ceea51dae74d5f3be108833ddb16da788c808e"), looks := true }, kinds := [], alts := [], laidByText := true, laidKinds := [.data, .data, .data], laidTests := true, laidLooks := .later }
def FnExactPrintInstUptoCardSaid : Prop := Claim7.holds Tryd.pinned (.plain (OpenSpec.upto fnExactPrintInstSpec)) fnExactPrintInstUptoCard

/-- THE SECOND FORM's CARD OF 'laws.FnExactValidProg'. -/
def fnExactValidProgUptoCard : Claim7 := { stood := { row := fnExactValidProgUptoRow, standIns := [], harness := (true, "7a9134576490de9103c1bca119ceea51dae74d5f3be108833ddb16da788c808e"), looks := true }, kinds := [], alts := [], laidByText := true, laidKinds := [.data, .data, .data], laidTests := true, laidLooks := .later }
def FnExactValidProgUptoCardSaid : Prop := Claim7.holds Tryd.pinned (.plain (OpenSpec.upto fnExactValidProgSpec)) fnExactValidProgUptoCard

/-- THE SECOND FORM's CARD OF 'laws.FnExactParseProg'. -/
def fnExactParseProgUptoCard : Claim7 := { stood := { row := fnExactParseProgUptoRow, standIns := [], harness := (true, "7a9134576490de9103c1bca119ceea51dae74d5f3be108833ddb16da788c808e"), looks := true }, kinds := [], alts := [], laidByText := true, laidKinds := [.data, .data], laidTests := true, laidLooks := .later }
def FnExactParseProgUptoCardSaid : Prop := Claim7.holds Tryd.pinned (.plain (OpenSpec.upto fnExactParseProgSpec)) fnExactParseProgUptoCard

/-- THE SECOND FORM's CARD OF 'laws.FnExactCheck'. -/
def fnExactCheckUptoCard : Claim7 := { stood := { row := fnExactCheckUptoRow, standIns := [], harness := (true, "7a9134576490de9103c1bca119ceea51dae74d5f3be108833ddb16da788c808e"), looks := true }, kinds := [], alts := [], laidByText := true, laidKinds := [.data, .data, .data, .data, .data], laidTests := true, laidLooks := .later }
def FnExactCheckUptoCardSaid : Prop := Claim7.holds Tryd.pinned (.plain (OpenSpec.upto fnExactCheckSpec)) fnExactCheckUptoCard
end Rows
end Go.Proofs.YtcnmeogjdkpmkabDoor

/-
  DERIVED. GIVEN WITH THE SEED: THE CARDS: each row of YtcnmeogjdkpmkabGreatDoorRows.lean that lists a variable, with what it lists TIED to the program's text (the seventh form; the later family's looks); each row that meets fmt, with fmt's text TOLD by the authors' own Lean function (tested against real Go, not proved from fmt's source: count such statements apart). THE CARD IS WHAT COUNTS. Prove the row's statement (the work); the ties are given (YtcnmeogjdkpmkabGreatDoorTie.lean); close each card by the builder's one call (the guide's Derived/Test/ToyasCard.lean, 'card_holds'). Laid BY PROGRAM, IN A SANDBOX (cutbox-door.mjs). By AI agents, Wed Nov 11 2026. No macro, syntax, notation, axiom, sorry.
-/
import Derived.Test.YtcnmeogjdkpmkabGreatDoorRows
import GoSem.ClaimSeven
namespace Go.Proofs.YtcnmeogjdkpmkabGreatDoor
namespace Rows

/-- THE TIED CARD OF 'laws.FnExactParseInst'. -/
def fnExactParseInstCard : Claim7 := { stood := { row := fnExactParseInstRow, standIns := [], harness := (true, "059dd32504947107e171f433a784158ec206b27c57c8bb43f08f1a9e72e222a8"), looks := true }, kinds := [], alts := [], laidByText := true, laidKinds := [.handle], laidTests := true, laidLooks := .later }
def FnExactParseInstCardSaid : Prop := Claim7.holds Tryz.pinned (.plain (OpenSpec.ofChange fnExactParseInstSpec)) fnExactParseInstCard

/-- THE TIED CARD OF 'laws.FnExactPrintProg'. -/
def fnExactPrintProgCard : Claim7 := { stood := { row := fnExactPrintProgRow, standIns := [], harness := (true, "059dd32504947107e171f433a784158ec206b27c57c8bb43f08f1a9e72e222a8"), looks := true }, kinds := [], alts := [], laidByText := true, laidKinds := [.data, .data, .data, .data, .data, .data, .data], laidTests := true, laidLooks := .later }
def FnExactPrintProgCardSaid : Prop := Claim7.holds Tryz.pinned (.plain (OpenSpec.ofChange fnExactPrintProgSpec)) fnExactPrintProgCard

/-- THE TIED CARD OF 'laws.FnExactCompile'. -/
def fnExactCompileCard : Claim7 := { stood := { row := fnExactCompileRow, standIns := [], harness := (true, "059dd32504947107e171f433a784158ec206b27c57c8bb43f08f1a9e72e222a8"), looks := true }, kinds := [], alts := [], laidByText := true, laidKinds := [.data, .data, .data, .data, .data, .data, .data, .data, .data, .data], laidTests := true, laidLooks := .later }
def FnExactCompileCardSaid : Prop := Claim7.holds Tryz.pinned (.plain (OpenSpec.ofChange fnExactCompileSpec)) fnExactCompileCard

/-- THE SECOND FORM's CARD OF 'laws.FnExactParseInst'. -/
def fnExactParseInstUptoCard : Claim7 := { stood := { row := fnExactParseInstUptoRow, standIns := [], harness := (true, "059dd32504947107e171f433a784158ec206b27c57c8bb43f08f1a9e72e222a8"), looks := true }, kinds := [], alts := [], laidByText := true, laidKinds := [.handle], laidTests := true, laidLooks := .later }
def FnExactParseInstUptoCardSaid : Prop := Claim7.holds Tryz.pinned (.plain (OpenSpec.upto fnExactParseInstSpec)) fnExactParseInstUptoCard

/-- THE SECOND FORM's CARD OF 'laws.FnExactPrintProg'. -/
def fnExactPrintProgUptoCard : Claim7 := { stood := { row := fnExactPrintProgUptoRow, standIns := [], harness := (true, "059dd32504947107e171f433a784158ec206b27c57c8bb43f08f1a9e72e222a8"), looks := true }, kinds := [], alts := [], laidByText := true, laidKinds := [.data, .data, .data, .data, .data, .data, .data], laidTests := true, laidLooks := .later }
def FnExactPrintProgUptoCardSaid : Prop := Claim7.holds Tryz.pinned (.plain (OpenSpec.upto fnExactPrintProgSpec)) fnExactPrintProgUptoCard

/-- THE SECOND FORM's CARD OF 'laws.FnExactCompile'. -/
def fnExactCompileUptoCard : Claim7 := { stood := { row := fnExactCompileUptoRow, standIns := [], harness := (true, "059dd32504947107e171f433a784158ec206b27c57c8bb43f08f1a9e72e222a8"), looks := true }, kinds := [], alts := [], laidByText := true, laidKinds := [.data, .data, .data, .data, .data, .data, .data, .data, .data, .data], laidTests := true, laidLooks := .later }
def FnExactCompileUptoCardSaid : Prop := Claim7.holds Tryz.pinned (.plain (OpenSpec.upto fnExactCompileSpec)) fnExactCompileUptoCard
end Rows
end Go.Proofs.YtcnmeogjdkpmkabGreatDoor

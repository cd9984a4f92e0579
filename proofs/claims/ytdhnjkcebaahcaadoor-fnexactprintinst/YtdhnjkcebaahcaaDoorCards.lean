/-
  DERIVED. GIVEN WITH THE SEED: THE CARDS: each row of YtdhnjkcebaahcaaDoorRows.lean that lists a variable, with what it lists TIED to the program's text (the seventh form; the later family's looks); each row that meets fmt, with fmt's text TOLD by the authors' own Lean function (tested against real Go, not proved from fmt's source: count such statements apart). THE CARD IS WHAT COUNTS. Prove the row's statement (the work); the ties are given (YtdhnjkcebaahcaaDoorTie.lean); close each card by the builder's one call (the guide's Derived/Test/ToyasCard.lean, 'card_holds'). Laid BY PROGRAM, IN A SANDBOX (cutbox-door.mjs). By AI agents, Wed Nov 11 2026. No macro, syntax, notation, axiom, sorry.
-/
import Derived.Test.YtdhnjkcebaahcaaDoorRows
import GoSem.ClaimSeven
namespace Go.Proofs.YtdhnjkcebaahcaaDoor
namespace Rows

/-- THE TIED CARD OF 'laws.FnExactPrintInst'. -/
def fnExactPrintInstCard : Claim7 := { stood := { row := fnExactPrintInstRow, standIns := [], harness := (true, "2005bb6bc0d7ad6ef9cab3ac4a4f125eb54e184e3ac4e0f9701aec0e74659515"), looks := false }, kinds := [], alts := [], laidByText := true, laidKinds := [.data, .data, .data], laidTests := true, laidLooks := .later }
def FnExactPrintInstCardSaid : Prop := Claim7.holds Tryd.pinned (.plain (OpenSpec.ofChange fnExactPrintInstSpec)) fnExactPrintInstCard

/-- THE TIED CARD OF 'laws.FnExactValidCode'. -/
def fnExactValidCodeCard : Claim7 := { stood := { row := fnExactValidCodeRow, standIns := [], harness := (true, "2005bb6bc0d7ad6ef9cab3ac4a4f125eb54e184e3ac4e0f9701aec0e74659515"), looks := false }, kinds := [], alts := [], laidByText := true, laidKinds := [.data], laidTests := true, laidLooks := .later }
def FnExactValidCodeCardSaid : Prop := Claim7.holds Tryd.pinned (.plain (OpenSpec.ofChange fnExactValidCodeSpec)) fnExactValidCodeCard

/-- THE TIED CARD OF 'laws.FnExactEncodeCode'. -/
def fnExactEncodeCodeCard : Claim7 := { stood := { row := fnExactEncodeCodeRow, standIns := [], harness := (true, "2005bb6bc0d7ad6ef9cab3ac4a4f125eb54e184e3ac4e0f9701aec0e74659515"), looks := false }, kinds := [], alts := [], laidByText := true, laidKinds := [.data], laidTests := true, laidLooks := .later }
def FnExactEncodeCodeCardSaid : Prop := Claim7.holds Tryd.pinned (.plain (OpenSpec.ofChange fnExactEncodeCodeSpec)) fnExactEncodeCodeCard

/-- THE TIED CARD OF 'laws.FnExactDecodeCode'. -/
def fnExactDecodeCodeCard : Claim7 := { stood := { row := fnExactDecodeCodeRow, standIns := [], harness := (true, "2005bb6bc0d7ad6ef9cab3ac4a4f125eb54e184e3ac4e0f9701aec0e74659515"), looks := false }, kinds := [], alts := [], laidByText := true, laidKinds := [.data], laidTests := true, laidLooks := .later }
def FnExactDecodeCodeCardSaid : Prop := Claim7.holds Tryd.pinned (.plain (OpenSpec.ofChange fnExactDecodeCodeSpec)) fnExactDecodeCodeCard

/-- THE SECOND FORM's CARD OF 'laws.FnExactPrintInst'. -/
def fnExactPrintInstUptoCard : Claim7 := { stood := { row := fnExactPrintInstUptoRow, standIns := [], harness := (true, "2005bb6bc0d7ad6ef9cab3ac4a4f125eb54e184e3ac4e0f9701aec0e74659515"), looks := false }, kinds := [], alts := [], laidByText := true, laidKinds := [.data, .data, .data], laidTests := true, laidLooks := .later }
def FnExactPrintInstUptoCardSaid : Prop := Claim7.holds Tryd.pinned (.plain (OpenSpec.upto fnExactPrintInstSpec)) fnExactPrintInstUptoCard

/-- THE SECOND FORM's CARD OF 'laws.FnExactValidCode'. -/
def fnExactValidCodeUptoCard : Claim7 := { stood := { row := fnExactValidCodeUptoRow, standIns := [], harness := (true, "2005bb6bc0d7ad6ef9cab3ac4a4f125eb54e184e3ac4e0f9701aec0e74659515"), looks := false }, kinds := [], alts := [], laidByText := true, laidKinds := [.data], laidTests := true, laidLooks := .later }
def FnExactValidCodeUptoCardSaid : Prop := Claim7.holds Tryd.pinned (.plain (OpenSpec.upto fnExactValidCodeSpec)) fnExactValidCodeUptoCard

/-- THE SECOND FORM's CARD OF 'laws.FnExactEncodeCode'. -/
def fnExactEncodeCodeUptoCard : Claim7 := { stood := { row := fnExactEncodeCodeUptoRow, standIns := [], harness := (true, "2005bb6bc0d7ad6ef9cab3ac4a4f125eb54e184e3ac4e0f9701aec0e74659515"), looks := false }, kinds := [], alts := [], laidByText := true, laidKinds := [.data], laidTests := true, laidLooks := .later }
def FnExactEncodeCodeUptoCardSaid : Prop := Claim7.holds Tryd.pinned (.plain (OpenSpec.upto fnExactEncodeCodeSpec)) fnExactEncodeCodeUptoCard

/-- THE SECOND FORM's CARD OF 'laws.FnExactDecodeCode'. -/
def fnExactDecodeCodeUptoCard : Claim7 := { stood := { row := fnExactDecodeCodeUptoRow, standIns := [], harness := (true, "2005bb6bc0d7ad6ef9cab3ac4a4f125eb54e184e3ac4e0f9701aec0e74659515"), looks := false }, kinds := [], alts := [], laidByText := true, laidKinds := [.data], laidTests := true, laidLooks := .later }
def FnExactDecodeCodeUptoCardSaid : Prop := Claim7.holds Tryd.pinned (.plain (OpenSpec.upto fnExactDecodeCodeSpec)) fnExactDecodeCodeUptoCard
end Rows
end Go.Proofs.YtdhnjkcebaahcaaDoor

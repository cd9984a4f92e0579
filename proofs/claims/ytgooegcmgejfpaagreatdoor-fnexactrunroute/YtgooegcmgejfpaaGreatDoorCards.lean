/-
  DERIVED. GIVEN WITH THE SEED: THE CARDS: each row of YtgooegcmgejfpaaGreatDoorRows.lean that lists a variable, with what it lists TIED to the program's text (the seventh form; the later family's looks); each row that meets fmt, with fmt's text TOLD by the authors' own Lean function (tested against real Go, not proved from fmt's source: count such statements apart). THE CARD IS WHAT COUNTS. Prove the row's statement (the work); the ties are given (YtgooegcmgejfpaaGreatDoorTie.lean); close each card by the builder's one call (the guide's Derived/Test/ToyasCard.lean, 'card_holds'). Laid BY PROGRAM, IN A SANDBOX (cutbox-door.mjs). By AI agents, Wed Nov 11 2026. No macro, syntax, notation, axiom, sorry.
-/
import Derived.Test.YtgooegcmgejfpaaGreatDoorRows
import GoSem.ClaimSeven
namespace Go.Proofs.YtgooegcmgejfpaaGreatDoor
namespace Rows

/-- THE TIED CARD OF 'laws.FnExactStartState'. -/
def fnExactStartStateCard : Claim7 := { stood := { row := fnExactStartStateRow, standIns := [], harness := (true, "087d2959f8df3d13532c8d72bb196717e97c4d6c95c87d592ad8779e084cb457"), looks := false }, kinds := [], alts := [], laidByText := true, laidKinds := [.data], laidTests := true, laidLooks := .later }
def FnExactStartStateCardSaid : Prop := Claim7.holds Tryz.pinned (.plain (OpenSpec.ofChange fnExactStartStateSpec)) fnExactStartStateCard

/-- THE TIED CARD OF 'laws.FnExactStepState'. -/
def fnExactStepStateCard : Claim7 := { stood := { row := fnExactStepStateRow, standIns := [], harness := (true, "087d2959f8df3d13532c8d72bb196717e97c4d6c95c87d592ad8779e084cb457"), looks := false }, kinds := [], alts := [], laidByText := true, laidKinds := [.data], laidTests := true, laidLooks := .later }
def FnExactStepStateCardSaid : Prop := Claim7.holds Tryz.pinned (.plain (OpenSpec.ofChange fnExactStepStateSpec)) fnExactStepStateCard

/-- THE TIED CARD OF 'laws.FnExactFinishState'. -/
def fnExactFinishStateCard : Claim7 := { stood := { row := fnExactFinishStateRow, standIns := [], harness := (true, "087d2959f8df3d13532c8d72bb196717e97c4d6c95c87d592ad8779e084cb457"), looks := false }, kinds := [], alts := [], laidByText := true, laidKinds := [.data], laidTests := true, laidLooks := .later }
def FnExactFinishStateCardSaid : Prop := Claim7.holds Tryz.pinned (.plain (OpenSpec.ofChange fnExactFinishStateSpec)) fnExactFinishStateCard

/-- THE TIED CARD OF 'laws.FnExactRunRoute'. -/
def fnExactRunRouteCard : Claim7 := { stood := { row := fnExactRunRouteRow, standIns := [], harness := (true, "087d2959f8df3d13532c8d72bb196717e97c4d6c95c87d592ad8779e084cb457"), looks := false }, kinds := [], alts := [], laidByText := true, laidKinds := [.data], laidTests := true, laidLooks := .later }
def FnExactRunRouteCardSaid : Prop := Claim7.holds Tryz.pinned (.plain (OpenSpec.ofChange fnExactRunRouteSpec)) fnExactRunRouteCard

/-- THE SECOND FORM's CARD OF 'laws.FnExactStartState'. -/
def fnExactStartStateUptoCard : Claim7 := { stood := { row := fnExactStartStateUptoRow, standIns := [], harness := (true, "087d2959f8df3d13532c8d72bb196717e97c4d6c95c87d592ad8779e084cb457"), looks := false }, kinds := [], alts := [], laidByText := true, laidKinds := [.data], laidTests := true, laidLooks := .later }
def FnExactStartStateUptoCardSaid : Prop := Claim7.holds Tryz.pinned (.plain (OpenSpec.upto fnExactStartStateSpec)) fnExactStartStateUptoCard

/-- THE SECOND FORM's CARD OF 'laws.FnExactStepState'. -/
def fnExactStepStateUptoCard : Claim7 := { stood := { row := fnExactStepStateUptoRow, standIns := [], harness := (true, "087d2959f8df3d13532c8d72bb196717e97c4d6c95c87d592ad8779e084cb457"), looks := false }, kinds := [], alts := [], laidByText := true, laidKinds := [.data], laidTests := true, laidLooks := .later }
def FnExactStepStateUptoCardSaid : Prop := Claim7.holds Tryz.pinned (.plain (OpenSpec.upto fnExactStepStateSpec)) fnExactStepStateUptoCard

/-- THE SECOND FORM's CARD OF 'laws.FnExactFinishState'. -/
def fnExactFinishStateUptoCard : Claim7 := { stood := { row := fnExactFinishStateUptoRow, standIns := [], harness := (true, "087d2959f8df3d13532c8d72bb196717e97c4d6c95c87d592ad8779e084cb457"), looks := false }, kinds := [], alts := [], laidByText := true, laidKinds := [.data], laidTests := true, laidLooks := .later }
def FnExactFinishStateUptoCardSaid : Prop := Claim7.holds Tryz.pinned (.plain (OpenSpec.upto fnExactFinishStateSpec)) fnExactFinishStateUptoCard

/-- THE SECOND FORM's CARD OF 'laws.FnExactRunRoute'. -/
def fnExactRunRouteUptoCard : Claim7 := { stood := { row := fnExactRunRouteUptoRow, standIns := [], harness := (true, "087d2959f8df3d13532c8d72bb196717e97c4d6c95c87d592ad8779e084cb457"), looks := false }, kinds := [], alts := [], laidByText := true, laidKinds := [.data], laidTests := true, laidLooks := .later }
def FnExactRunRouteUptoCardSaid : Prop := Claim7.holds Tryz.pinned (.plain (OpenSpec.upto fnExactRunRouteSpec)) fnExactRunRouteUptoCard
end Rows
end Go.Proofs.YtgooegcmgejfpaaGreatDoor

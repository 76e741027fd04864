/-
  DERIVED. GIVEN WITH THE SEED: THE CARDS: each row of YtfncpmaefninjaaGreatDoorRows.lean that lists a variable, with what it lists TIED to the program's text (the seventh form; the later family's looks); each row that meets fmt, with fmt's text TOLD by the authors' own Lean function (tested against real Go, not proved from fmt's source: count such statements apart). THE CARD IS WHAT COUNTS. Prove the row's statement (the work); the ties are given (YtfncpmaefninjaaGreatDoorTie.lean); close each card by the builder's one call (the guide's Derived/Test/ToyasCard.lean, 'card_holds'). Laid BY PROGRAM, IN A SANDBOX (cutbox-door.mjs). By AI agents, Wed Nov 11 2026. No macro, syntax, notation, axiom, sorry.
-/
import Derived.Test.YtfncpmaefninjaaGreatDoorRows
import GoSem.ClaimSeven
namespace Go.Proofs.YtfncpmaefninjaaGreatDoor
namespace Rows

/-- THE TIED CARD OF 'laws.FnTicked'. -/
def fnTickedCard : Claim7 := { stood := { row := fnTickedRow, standIns := [], harness := (true, "a2f798ca2c9170f85cf3cc1ac6184866404f8f3f70b77c527a066e0f8813429a"), looks := true }, kinds := [], alts := [], laidByText := true, laidKinds := [.handle, .sentinel, .sentinel, .sentinel], laidTests := true, laidLooks := .later }
def FnTickedCardSaid : Prop := Claim7.holds Tryz.pinned (.plain (OpenSpec.ofChange fnTickedSpec)) fnTickedCard

/-- THE TIED CARD OF 'laws.FnOneRuns'. -/
def fnOneRunsCard : Claim7 := { stood := { row := fnOneRunsRow, standIns := [], harness := (true, "a2f798ca2c9170f85cf3cc1ac6184866404f8f3f70b77c527a066e0f8813429a"), looks := true }, kinds := [], alts := [], laidByText := true, laidKinds := [.handle, .sentinel, .sentinel, .sentinel], laidTests := true, laidLooks := .later }
def FnOneRunsCardSaid : Prop := Claim7.holds Tryz.pinned (.plain (OpenSpec.ofChange fnOneRunsSpec)) fnOneRunsCard

/-- THE TIED CARD OF 'laws.FnWaits'. -/
def fnWaitsCard : Claim7 := { stood := { row := fnWaitsRow, standIns := [], harness := (true, "a2f798ca2c9170f85cf3cc1ac6184866404f8f3f70b77c527a066e0f8813429a"), looks := true }, kinds := [], alts := [], laidByText := true, laidKinds := [.handle, .sentinel, .sentinel, .sentinel], laidTests := true, laidLooks := .later }
def FnWaitsCardSaid : Prop := Claim7.holds Tryz.pinned (.plain (OpenSpec.ofChange fnWaitsSpec)) fnWaitsCard

/-- THE TIED CARD OF 'laws.FnTickParts'. -/
def fnTickPartsCard : Claim7 := { stood := { row := fnTickPartsRow, standIns := [], harness := (true, "a2f798ca2c9170f85cf3cc1ac6184866404f8f3f70b77c527a066e0f8813429a"), looks := true }, kinds := [], alts := [], laidByText := true, laidKinds := [.handle, .sentinel, .sentinel, .sentinel], laidTests := true, laidLooks := .later }
def FnTickPartsCardSaid : Prop := Claim7.holds Tryz.pinned (.plain (OpenSpec.ofChange fnTickPartsSpec)) fnTickPartsCard

/-- THE SECOND FORM's CARD OF 'laws.FnTicked'. -/
def fnTickedUptoCard : Claim7 := { stood := { row := fnTickedUptoRow, standIns := [], harness := (true, "a2f798ca2c9170f85cf3cc1ac6184866404f8f3f70b77c527a066e0f8813429a"), looks := true }, kinds := [], alts := [], laidByText := true, laidKinds := [.handle, .sentinel, .sentinel, .sentinel], laidTests := true, laidLooks := .later }
def FnTickedUptoCardSaid : Prop := Claim7.holds Tryz.pinned (.plain (OpenSpec.upto fnTickedSpec)) fnTickedUptoCard

/-- THE SECOND FORM's CARD OF 'laws.FnOneRuns'. -/
def fnOneRunsUptoCard : Claim7 := { stood := { row := fnOneRunsUptoRow, standIns := [], harness := (true, "a2f798ca2c9170f85cf3cc1ac6184866404f8f3f70b77c527a066e0f8813429a"), looks := true }, kinds := [], alts := [], laidByText := true, laidKinds := [.handle, .sentinel, .sentinel, .sentinel], laidTests := true, laidLooks := .later }
def FnOneRunsUptoCardSaid : Prop := Claim7.holds Tryz.pinned (.plain (OpenSpec.upto fnOneRunsSpec)) fnOneRunsUptoCard

/-- THE SECOND FORM's CARD OF 'laws.FnWaits'. -/
def fnWaitsUptoCard : Claim7 := { stood := { row := fnWaitsUptoRow, standIns := [], harness := (true, "a2f798ca2c9170f85cf3cc1ac6184866404f8f3f70b77c527a066e0f8813429a"), looks := true }, kinds := [], alts := [], laidByText := true, laidKinds := [.handle, .sentinel, .sentinel, .sentinel], laidTests := true, laidLooks := .later }
def FnWaitsUptoCardSaid : Prop := Claim7.holds Tryz.pinned (.plain (OpenSpec.upto fnWaitsSpec)) fnWaitsUptoCard

/-- THE SECOND FORM's CARD OF 'laws.FnTickParts'. -/
def fnTickPartsUptoCard : Claim7 := { stood := { row := fnTickPartsUptoRow, standIns := [], harness := (true, "a2f798ca2c9170f85cf3cc1ac6184866404f8f3f70b77c527a066e0f8813429a"), looks := true }, kinds := [], alts := [], laidByText := true, laidKinds := [.handle, .sentinel, .sentinel, .sentinel], laidTests := true, laidLooks := .later }
def FnTickPartsUptoCardSaid : Prop := Claim7.holds Tryz.pinned (.plain (OpenSpec.upto fnTickPartsSpec)) fnTickPartsUptoCard
end Rows
end Go.Proofs.YtfncpmaefninjaaGreatDoor

/-
  DERIVED. GIVEN WITH THE SEED: THE CARDS: each row of YtgdmbemagdbmaaaGreatDoorRows.lean that lists a variable, with what it lists TIED to the program's text (the seventh form; the later family's looks); each row that meets fmt, with fmt's text TOLD by the authors' own Lean function (tested against real Go, not proved from fmt's source: count such statements apart). THE CARD IS WHAT COUNTS. Prove the row's statement (the work); the ties are given (YtgdmbemagdbmaaaGreatDoorTie.lean); close each card by the builder's one call (the guide's Derived/Test/ToyasCard.lean, 'card_holds'). Laid BY PROGRAM, IN A SANDBOX (cutbox-door.mjs). By AI agents, Wed Nov 11 2026. No macro, syntax, notation, axiom, sorry.
-/
import Derived.Test.YtgdmbemagdbmaaaGreatDoorRows
import GoSem.ClaimSeven
namespace Go.Proofs.YtgdmbemagdbmaaaGreatDoor
namespace Rows

/-- THE TIED CARD OF 'laws.FnRuns'. -/
def fnRunsCard : Claim7 := { stood := { row := fnRunsRow, standIns := [], harness := (true, "6550f52596b093034412c1a95f4ef26a669833601a3be2c08a6653415654e60f"), looks := true }, kinds := [], alts := [], laidByText := true, laidKinds := [.handle, .sentinel, .sentinel, .sentinel], laidTests := true, laidLooks := .later }
def FnRunsCardSaid : Prop := Claim7.holds Tryz.pinned (.plain (OpenSpec.ofChange fnRunsSpec)) fnRunsCard

/-- THE TIED CARD OF 'laws.FnTimes'. -/
def fnTimesCard : Claim7 := { stood := { row := fnTimesRow, standIns := [], harness := (true, "6550f52596b093034412c1a95f4ef26a669833601a3be2c08a6653415654e60f"), looks := true }, kinds := [], alts := [], laidByText := true, laidKinds := [.handle, .sentinel, .sentinel, .sentinel], laidTests := true, laidLooks := .later }
def FnTimesCardSaid : Prop := Claim7.holds Tryz.pinned (.plain (OpenSpec.ofChange fnTimesSpec)) fnTimesCard

/-- THE TIED CARD OF 'laws.FnPriorities'. -/
def fnPrioritiesCard : Claim7 := { stood := { row := fnPrioritiesRow, standIns := [], harness := (true, "6550f52596b093034412c1a95f4ef26a669833601a3be2c08a6653415654e60f"), looks := true }, kinds := [], alts := [], laidByText := true, laidKinds := [.handle, .sentinel, .sentinel, .sentinel], laidTests := true, laidLooks := .later }
def FnPrioritiesCardSaid : Prop := Claim7.holds Tryz.pinned (.plain (OpenSpec.ofChange fnPrioritiesSpec)) fnPrioritiesCard

/-- THE TIED CARD OF 'laws.FnHandedOver'. -/
def fnHandedOverCard : Claim7 := { stood := { row := fnHandedOverRow, standIns := [], harness := (true, "6550f52596b093034412c1a95f4ef26a669833601a3be2c08a6653415654e60f"), looks := true }, kinds := [], alts := [], laidByText := true, laidKinds := [.handle, .sentinel, .sentinel, .sentinel], laidTests := true, laidLooks := .later }
def FnHandedOverCardSaid : Prop := Claim7.holds Tryz.pinned (.plain (OpenSpec.ofChange fnHandedOverSpec)) fnHandedOverCard

/-- THE SECOND FORM's CARD OF 'laws.FnRuns'. -/
def fnRunsUptoCard : Claim7 := { stood := { row := fnRunsUptoRow, standIns := [], harness := (true, "6550f52596b093034412c1a95f4ef26a669833601a3be2c08a6653415654e60f"), looks := true }, kinds := [], alts := [], laidByText := true, laidKinds := [.handle, .sentinel, .sentinel, .sentinel], laidTests := true, laidLooks := .later }
def FnRunsUptoCardSaid : Prop := Claim7.holds Tryz.pinned (.plain (OpenSpec.upto fnRunsSpec)) fnRunsUptoCard

/-- THE SECOND FORM's CARD OF 'laws.FnTimes'. -/
def fnTimesUptoCard : Claim7 := { stood := { row := fnTimesUptoRow, standIns := [], harness := (true, "6550f52596b093034412c1a95f4ef26a669833601a3be2c08a6653415654e60f"), looks := true }, kinds := [], alts := [], laidByText := true, laidKinds := [.handle, .sentinel, .sentinel, .sentinel], laidTests := true, laidLooks := .later }
def FnTimesUptoCardSaid : Prop := Claim7.holds Tryz.pinned (.plain (OpenSpec.upto fnTimesSpec)) fnTimesUptoCard

/-- THE SECOND FORM's CARD OF 'laws.FnPriorities'. -/
def fnPrioritiesUptoCard : Claim7 := { stood := { row := fnPrioritiesUptoRow, standIns := [], harness := (true, "6550f52596b093034412c1a95f4ef26a669833601a3be2c08a6653415654e60f"), looks := true }, kinds := [], alts := [], laidByText := true, laidKinds := [.handle, .sentinel, .sentinel, .sentinel], laidTests := true, laidLooks := .later }
def FnPrioritiesUptoCardSaid : Prop := Claim7.holds Tryz.pinned (.plain (OpenSpec.upto fnPrioritiesSpec)) fnPrioritiesUptoCard

/-- THE SECOND FORM's CARD OF 'laws.FnHandedOver'. -/
def fnHandedOverUptoCard : Claim7 := { stood := { row := fnHandedOverUptoRow, standIns := [], harness := (true, "6550f52596b093034412c1a95f4ef26a669833601a3be2c08a6653415654e60f"), looks := true }, kinds := [], alts := [], laidByText := true, laidKinds := [.handle, .sentinel, .sentinel, .sentinel], laidTests := true, laidLooks := .later }
def FnHandedOverUptoCardSaid : Prop := Claim7.holds Tryz.pinned (.plain (OpenSpec.upto fnHandedOverSpec)) fnHandedOverUptoCard
end Rows
end Go.Proofs.YtgdmbemagdbmaaaGreatDoor

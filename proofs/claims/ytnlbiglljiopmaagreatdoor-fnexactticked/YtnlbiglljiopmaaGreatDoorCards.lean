/-
  DERIVED. GIVEN WITH THE SEED: THE CARDS: each row of YtnlbiglljiopmaaGreatDoorRows.lean that lists a variable, with what it lists TIED to the program's text (the seventh form; the later family's looks); each row that meets fmt, with fmt's text TOLD by the authors' own Lean function (tested against real Go, not proved from fmt's source: count such statements apart). THE CARD IS WHAT COUNTS. Prove the row's statement (the work); the ties are given (YtnlbiglljiopmaaGreatDoorTie.lean); close each card by the builder's one call (the guide's Derived/Test/ToyasCard.lean, 'card_holds'). Laid BY PROGRAM, IN A SANDBOX (cutbox-door.mjs). By AI agents, Wed Nov 11 2026. No macro, syntax, notation, axiom, sorry.
-/
import Derived.Test.YtnlbiglljiopmaaGreatDoorRows
import GoSem.ClaimSeven
namespace Go.Proofs.YtnlbiglljiopmaaGreatDoor
namespace Rows

/-- THE TIED CARD OF 'laws.FnExactTicked'. -/
def fnExactTickedCard : Claim7 := { stood := { row := fnExactTickedRow, standIns := [], harness := (true, "ce43f61791af67faeaa6d0a183248cb1f41a7064ef170cf09f24787451bed4a8"), looks := true }, kinds := [], alts := [], laidByText := true, laidKinds := [.handle, .sentinel, .sentinel, .sentinel], laidTests := true, laidLooks := .later }
def FnExactTickedCardSaid : Prop := Claim7.holds Tryz.pinned (.plain (OpenSpec.ofChange fnExactTickedSpec)) fnExactTickedCard

/-- THE TIED CARD OF 'laws.FnExactTickedBy'. -/
def fnExactTickedByCard : Claim7 := { stood := { row := fnExactTickedByRow, standIns := [], harness := (true, "ce43f61791af67faeaa6d0a183248cb1f41a7064ef170cf09f24787451bed4a8"), looks := true }, kinds := [], alts := [], laidByText := true, laidKinds := [.handle, .sentinel, .sentinel, .sentinel], laidTests := true, laidLooks := .later }
def FnExactTickedByCardSaid : Prop := Claim7.holds Tryz.pinned (.plain (OpenSpec.ofChange fnExactTickedBySpec)) fnExactTickedByCard

/-- THE SECOND FORM's CARD OF 'laws.FnExactTicked'. -/
def fnExactTickedUptoCard : Claim7 := { stood := { row := fnExactTickedUptoRow, standIns := [], harness := (true, "ce43f61791af67faeaa6d0a183248cb1f41a7064ef170cf09f24787451bed4a8"), looks := true }, kinds := [], alts := [], laidByText := true, laidKinds := [.handle, .sentinel, .sentinel, .sentinel], laidTests := true, laidLooks := .later }
def FnExactTickedUptoCardSaid : Prop := Claim7.holds Tryz.pinned (.plain (OpenSpec.upto fnExactTickedSpec)) fnExactTickedUptoCard

/-- THE SECOND FORM's CARD OF 'laws.FnExactTickedBy'. -/
def fnExactTickedByUptoCard : Claim7 := { stood := { row := fnExactTickedByUptoRow, standIns := [], harness := (true, "ce43f61791af67faeaa6d0a183248cb1f41a7064ef170cf09f24787451bed4a8"), looks := true }, kinds := [], alts := [], laidByText := true, laidKinds := [.handle, .sentinel, .sentinel, .sentinel], laidTests := true, laidLooks := .later }
def FnExactTickedByUptoCardSaid : Prop := Claim7.holds Tryz.pinned (.plain (OpenSpec.upto fnExactTickedBySpec)) fnExactTickedByUptoCard
end Rows
end Go.Proofs.YtnlbiglljiopmaaGreatDoor

/-
  No cell of these rows narrows 'for every input' (looked for: loops, veiled, ifaces, maps, wideKeys, modest, calm, conditions, laid).
  DERIVED. THE GIVEN ROWS OF THIS SEAT. 17 by the template 'for every input the law returns true; each argument reads behind the call as it read before'; 0 by the template 'total and deterministic' (their statements: YtkbcplnlehdjfaaGreatTotals.lean).
  GIVEN WITH THE SEED: the statements are not yours to turn. If you find one false, say at which input.
  Laid BY PROGRAM, IN A SANDBOX (cutbox-rows.mjs): the forced cells as the released guide's own fill.sh prints them over the translation f800ac0cff54954a… (all of the seat's roots in one cut). By AI agents, Wed Nov 11 2026. No macro, syntax, notation, axiom, sorry.
-/
import Derived.Test.YtkbcplnlehdjfaaGreatChecked
import GoSem.Claim
import GoSem.ClaimJoined
import GoSem.ClaimMapViews
import Derived.JoinedTies
import Derived.KernelRfl
namespace Go.Proofs.YtkbcplnlehdjfaaGreat
/- THE CELL 'sum', in the pinned program and in every row, IS THE sha256 OF THE DUMP (.gsa) THAT YtkbcplnlehdjfaaGreatProg.lean LOADS. Nothing in Lean hashes anything: it is a label: what it is worth is what the hold of that sum in a sandbox is worth. -/
noncomputable def Tryz.pinned : Pinned := { name := "ytkbcplnlehdjfaagreat", sum := "f800ac0cff54954ae60dad4b67e18f437805f06c1bbd68f8a554975fa1f48ef5", checked := Tryz.checked }
namespace Rows
def none {H : Type} : Left H := { results := [], args := [] }

/-- 'laws.FnParts': WHATEVER THE INPUT: true; the input reads as it did. -/
def fnPartsSpec : ChangeSpec := { name := "fnParts", fn := fun _ => fun
  | [d] => { results := [.lit (.bool true)], args := [d] }
  | _ => none }
def fnPartsRow : OpenClaim := { program := "ytkbcplnlehdjfaagreat", sum := "f800ac0cff54954ae60dad4b67e18f437805f06c1bbd68f8a554975fa1f48ef5", func := "loop.example/g00313/laws.FnParts", spec := "fnParts", unfollowed := true, recurses := true, apart := false }
def FnPartsSaid : Prop := fnPartsRow.holds Tryz.pinned (OpenSpec.ofChange fnPartsSpec)

/-- ITS FALSE NEIGHBOUR: 'it returns false'. Refute it at one input. -/
def fnPartsWrong : ChangeSpec := { name := "fnParts", fn := fun _ => fun
  | [d] => { results := [.lit (.bool false)], args := [d] }
  | _ => none }
def FnPartsWrongFalsely : Prop := fnPartsRow.holds Tryz.pinned (OpenSpec.ofChange fnPartsWrong)

/-- 'laws.FnThings': WHATEVER THE INPUT: true; the input reads as it did. -/
def fnThingsSpec : ChangeSpec := { name := "fnThings", fn := fun _ => fun
  | [d] => { results := [.lit (.bool true)], args := [d] }
  | _ => none }
def fnThingsRow : OpenClaim := { program := "ytkbcplnlehdjfaagreat", sum := "f800ac0cff54954ae60dad4b67e18f437805f06c1bbd68f8a554975fa1f48ef5", func := "loop.example/g00313/laws.FnThings", spec := "fnThings", unfollowed := true, recurses := true, apart := false }
def FnThingsSaid : Prop := fnThingsRow.holds Tryz.pinned (OpenSpec.ofChange fnThingsSpec)

/-- ITS FALSE NEIGHBOUR: 'it returns false'. Refute it at one input. -/
def fnThingsWrong : ChangeSpec := { name := "fnThings", fn := fun _ => fun
  | [d] => { results := [.lit (.bool false)], args := [d] }
  | _ => none }
def FnThingsWrongFalsely : Prop := fnThingsRow.holds Tryz.pinned (OpenSpec.ofChange fnThingsWrong)

/-- 'laws.FnStarted': WHATEVER THE INPUT: true; the input reads as it did. -/
def fnStartedSpec : ChangeSpec := { name := "fnStarted", fn := fun _ => fun
  | [d] => { results := [.lit (.bool true)], args := [d] }
  | _ => none }
def fnStartedRow : OpenClaim := { program := "ytkbcplnlehdjfaagreat", sum := "f800ac0cff54954ae60dad4b67e18f437805f06c1bbd68f8a554975fa1f48ef5", func := "loop.example/g00313/laws.FnStarted", spec := "fnStarted", unfollowed := true, recurses := true, apart := false }
def FnStartedSaid : Prop := fnStartedRow.holds Tryz.pinned (OpenSpec.ofChange fnStartedSpec)

/-- ITS FALSE NEIGHBOUR: 'it returns false'. Refute it at one input. -/
def fnStartedWrong : ChangeSpec := { name := "fnStarted", fn := fun _ => fun
  | [d] => { results := [.lit (.bool false)], args := [d] }
  | _ => none }
def FnStartedWrongFalsely : Prop := fnStartedRow.holds Tryz.pinned (OpenSpec.ofChange fnStartedWrong)

/-- 'laws.FnChosen': WHATEVER THE INPUT: true; the input reads as it did. -/
def fnChosenSpec : ChangeSpec := { name := "fnChosen", fn := fun _ => fun
  | [d] => { results := [.lit (.bool true)], args := [d] }
  | _ => none }
def fnChosenRow : OpenClaim := { program := "ytkbcplnlehdjfaagreat", sum := "f800ac0cff54954ae60dad4b67e18f437805f06c1bbd68f8a554975fa1f48ef5", func := "loop.example/g00313/laws.FnChosen", spec := "fnChosen", unfollowed := true, recurses := true, apart := false }
def FnChosenSaid : Prop := fnChosenRow.holds Tryz.pinned (OpenSpec.ofChange fnChosenSpec)

/-- ITS FALSE NEIGHBOUR: 'it returns false'. Refute it at one input. -/
def fnChosenWrong : ChangeSpec := { name := "fnChosen", fn := fun _ => fun
  | [d] => { results := [.lit (.bool false)], args := [d] }
  | _ => none }
def FnChosenWrongFalsely : Prop := fnChosenRow.holds Tryz.pinned (OpenSpec.ofChange fnChosenWrong)

/-- 'laws.FnWoken': WHATEVER THE INPUT: true; the input reads as it did. -/
def fnWokenSpec : ChangeSpec := { name := "fnWoken", fn := fun _ => fun
  | [d] => { results := [.lit (.bool true)], args := [d] }
  | _ => none }
def fnWokenRow : OpenClaim := { program := "ytkbcplnlehdjfaagreat", sum := "f800ac0cff54954ae60dad4b67e18f437805f06c1bbd68f8a554975fa1f48ef5", func := "loop.example/g00313/laws.FnWoken", spec := "fnWoken", unfollowed := true, recurses := true, apart := false }
def FnWokenSaid : Prop := fnWokenRow.holds Tryz.pinned (OpenSpec.ofChange fnWokenSpec)

/-- ITS FALSE NEIGHBOUR: 'it returns false'. Refute it at one input. -/
def fnWokenWrong : ChangeSpec := { name := "fnWoken", fn := fun _ => fun
  | [d] => { results := [.lit (.bool false)], args := [d] }
  | _ => none }
def FnWokenWrongFalsely : Prop := fnWokenRow.holds Tryz.pinned (OpenSpec.ofChange fnWokenWrong)

/-- 'laws.FnExactPartOk': WHATEVER THE INPUT: true; the input reads as it did. -/
def fnExactPartOkSpec : ChangeSpec := { name := "fnExactPartOk", fn := fun _ => fun
  | [d] => { results := [.lit (.bool true)], args := [d] }
  | _ => none }
def fnExactPartOkRow : OpenClaim := { program := "ytkbcplnlehdjfaagreat", sum := "f800ac0cff54954ae60dad4b67e18f437805f06c1bbd68f8a554975fa1f48ef5", func := "loop.example/g00313/laws.FnExactPartOk", spec := "fnExactPartOk", unfollowed := true, recurses := true, apart := false }
def FnExactPartOkSaid : Prop := fnExactPartOkRow.holds Tryz.pinned (OpenSpec.ofChange fnExactPartOkSpec)

/-- ITS FALSE NEIGHBOUR: 'it returns false'. Refute it at one input. -/
def fnExactPartOkWrong : ChangeSpec := { name := "fnExactPartOk", fn := fun _ => fun
  | [d] => { results := [.lit (.bool false)], args := [d] }
  | _ => none }
def FnExactPartOkWrongFalsely : Prop := fnExactPartOkRow.holds Tryz.pinned (OpenSpec.ofChange fnExactPartOkWrong)

/-- 'laws.FnExactWithProc': WHATEVER THE INPUT: true; the input reads as it did. -/
def fnExactWithProcSpec : ChangeSpec := { name := "fnExactWithProc", fn := fun _ => fun
  | [d1, d2, d3, d4] => { results := [.lit (.bool true)], args := [d1, d2, d3, d4] }
  | _ => none }
def fnExactWithProcRow : OpenClaim := { program := "ytkbcplnlehdjfaagreat", sum := "f800ac0cff54954ae60dad4b67e18f437805f06c1bbd68f8a554975fa1f48ef5", func := "loop.example/g00313/laws.FnExactWithProc", spec := "fnExactWithProc", unfollowed := true, recurses := true, apart := false }
def FnExactWithProcSaid : Prop := fnExactWithProcRow.holds Tryz.pinned (OpenSpec.ofChange fnExactWithProcSpec)

/-- ITS FALSE NEIGHBOUR: 'it returns false'. Refute it at one input. -/
def fnExactWithProcWrong : ChangeSpec := { name := "fnExactWithProc", fn := fun _ => fun
  | [d1, d2, d3, d4] => { results := [.lit (.bool false)], args := [d1, d2, d3, d4] }
  | _ => none }
def FnExactWithProcWrongFalsely : Prop := fnExactWithProcRow.holds Tryz.pinned (OpenSpec.ofChange fnExactWithProcWrong)

/-- 'laws.FnExactWithSem': WHATEVER THE INPUT: true; the input reads as it did. -/
def fnExactWithSemSpec : ChangeSpec := { name := "fnExactWithSem", fn := fun _ => fun
  | [d1, d2] => { results := [.lit (.bool true)], args := [d1, d2] }
  | _ => none }
def fnExactWithSemRow : OpenClaim := { program := "ytkbcplnlehdjfaagreat", sum := "f800ac0cff54954ae60dad4b67e18f437805f06c1bbd68f8a554975fa1f48ef5", func := "loop.example/g00313/laws.FnExactWithSem", spec := "fnExactWithSem", unfollowed := true, recurses := true, apart := false }
def FnExactWithSemSaid : Prop := fnExactWithSemRow.holds Tryz.pinned (OpenSpec.ofChange fnExactWithSemSpec)

/-- ITS FALSE NEIGHBOUR: 'it returns false'. Refute it at one input. -/
def fnExactWithSemWrong : ChangeSpec := { name := "fnExactWithSem", fn := fun _ => fun
  | [d1, d2] => { results := [.lit (.bool false)], args := [d1, d2] }
  | _ => none }
def FnExactWithSemWrongFalsely : Prop := fnExactWithSemRow.holds Tryz.pinned (OpenSpec.ofChange fnExactWithSemWrong)

/-- 'laws.FnExactWithEvent': WHATEVER THE INPUT: true; the input reads as it did. -/
def fnExactWithEventSpec : ChangeSpec := { name := "fnExactWithEvent", fn := fun _ => fun
  | [d1, d2] => { results := [.lit (.bool true)], args := [d1, d2] }
  | _ => none }
def fnExactWithEventRow : OpenClaim := { program := "ytkbcplnlehdjfaagreat", sum := "f800ac0cff54954ae60dad4b67e18f437805f06c1bbd68f8a554975fa1f48ef5", func := "loop.example/g00313/laws.FnExactWithEvent", spec := "fnExactWithEvent", unfollowed := true, recurses := true, apart := false }
def FnExactWithEventSaid : Prop := fnExactWithEventRow.holds Tryz.pinned (OpenSpec.ofChange fnExactWithEventSpec)

/-- ITS FALSE NEIGHBOUR: 'it returns false'. Refute it at one input. -/
def fnExactWithEventWrong : ChangeSpec := { name := "fnExactWithEvent", fn := fun _ => fun
  | [d1, d2] => { results := [.lit (.bool false)], args := [d1, d2] }
  | _ => none }
def FnExactWithEventWrongFalsely : Prop := fnExactWithEventRow.holds Tryz.pinned (OpenSpec.ofChange fnExactWithEventWrong)

/-- 'laws.FnExactWithBoard': WHATEVER THE INPUT: true; the input reads as it did. -/
def fnExactWithBoardSpec : ChangeSpec := { name := "fnExactWithBoard", fn := fun _ => fun
  | [d1, d2] => { results := [.lit (.bool true)], args := [d1, d2] }
  | _ => none }
def fnExactWithBoardRow : OpenClaim := { program := "ytkbcplnlehdjfaagreat", sum := "f800ac0cff54954ae60dad4b67e18f437805f06c1bbd68f8a554975fa1f48ef5", func := "loop.example/g00313/laws.FnExactWithBoard", spec := "fnExactWithBoard", unfollowed := true, recurses := true, apart := false }
def FnExactWithBoardSaid : Prop := fnExactWithBoardRow.holds Tryz.pinned (OpenSpec.ofChange fnExactWithBoardSpec)

/-- ITS FALSE NEIGHBOUR: 'it returns false'. Refute it at one input. -/
def fnExactWithBoardWrong : ChangeSpec := { name := "fnExactWithBoard", fn := fun _ => fun
  | [d1, d2] => { results := [.lit (.bool false)], args := [d1, d2] }
  | _ => none }
def FnExactWithBoardWrongFalsely : Prop := fnExactWithBoardRow.holds Tryz.pinned (OpenSpec.ofChange fnExactWithBoardWrong)

/-- 'laws.FnExactWithBuffer': WHATEVER THE INPUT: true; the input reads as it did. -/
def fnExactWithBufferSpec : ChangeSpec := { name := "fnExactWithBuffer", fn := fun _ => fun
  | [d1, d2, d3] => { results := [.lit (.bool true)], args := [d1, d2, d3] }
  | _ => none }
def fnExactWithBufferRow : OpenClaim := { program := "ytkbcplnlehdjfaagreat", sum := "f800ac0cff54954ae60dad4b67e18f437805f06c1bbd68f8a554975fa1f48ef5", func := "loop.example/g00313/laws.FnExactWithBuffer", spec := "fnExactWithBuffer", unfollowed := true, recurses := true, apart := false }
def FnExactWithBufferSaid : Prop := fnExactWithBufferRow.holds Tryz.pinned (OpenSpec.ofChange fnExactWithBufferSpec)

/-- ITS FALSE NEIGHBOUR: 'it returns false'. Refute it at one input. -/
def fnExactWithBufferWrong : ChangeSpec := { name := "fnExactWithBuffer", fn := fun _ => fun
  | [d1, d2, d3] => { results := [.lit (.bool false)], args := [d1, d2, d3] }
  | _ => none }
def FnExactWithBufferWrongFalsely : Prop := fnExactWithBufferRow.holds Tryz.pinned (OpenSpec.ofChange fnExactWithBufferWrong)

/-- 'laws.FnExactWithPort': WHATEVER THE INPUT: true; the input reads as it did. -/
def fnExactWithPortSpec : ChangeSpec := { name := "fnExactWithPort", fn := fun _ => fun
  | [d1, d2] => { results := [.lit (.bool true)], args := [d1, d2] }
  | _ => none }
def fnExactWithPortRow : OpenClaim := { program := "ytkbcplnlehdjfaagreat", sum := "f800ac0cff54954ae60dad4b67e18f437805f06c1bbd68f8a554975fa1f48ef5", func := "loop.example/g00313/laws.FnExactWithPort", spec := "fnExactWithPort", unfollowed := true, recurses := true, apart := false }
def FnExactWithPortSaid : Prop := fnExactWithPortRow.holds Tryz.pinned (OpenSpec.ofChange fnExactWithPortSpec)

/-- ITS FALSE NEIGHBOUR: 'it returns false'. Refute it at one input. -/
def fnExactWithPortWrong : ChangeSpec := { name := "fnExactWithPort", fn := fun _ => fun
  | [d1, d2] => { results := [.lit (.bool false)], args := [d1, d2] }
  | _ => none }
def FnExactWithPortWrongFalsely : Prop := fnExactWithPortRow.holds Tryz.pinned (OpenSpec.ofChange fnExactWithPortWrong)

/-- 'laws.FnExactProcOf': WHATEVER THE INPUT: true; the input reads as it did. -/
def fnExactProcOfSpec : ChangeSpec := { name := "fnExactProcOf", fn := fun _ => fun
  | [d1, d2] => { results := [.lit (.bool true)], args := [d1, d2] }
  | _ => none }
def fnExactProcOfRow : OpenClaim := { program := "ytkbcplnlehdjfaagreat", sum := "f800ac0cff54954ae60dad4b67e18f437805f06c1bbd68f8a554975fa1f48ef5", func := "loop.example/g00313/laws.FnExactProcOf", spec := "fnExactProcOf", unfollowed := true, recurses := true, apart := false }
def FnExactProcOfSaid : Prop := fnExactProcOfRow.holds Tryz.pinned (OpenSpec.ofChange fnExactProcOfSpec)

/-- ITS FALSE NEIGHBOUR: 'it returns false'. Refute it at one input. -/
def fnExactProcOfWrong : ChangeSpec := { name := "fnExactProcOf", fn := fun _ => fun
  | [d1, d2] => { results := [.lit (.bool false)], args := [d1, d2] }
  | _ => none }
def FnExactProcOfWrongFalsely : Prop := fnExactProcOfRow.holds Tryz.pinned (OpenSpec.ofChange fnExactProcOfWrong)

/-- 'laws.FnExactChosen': WHATEVER THE INPUT: true; the input reads as it did. -/
def fnExactChosenSpec : ChangeSpec := { name := "fnExactChosen", fn := fun _ => fun
  | [d] => { results := [.lit (.bool true)], args := [d] }
  | _ => none }
def fnExactChosenRow : OpenClaim := { program := "ytkbcplnlehdjfaagreat", sum := "f800ac0cff54954ae60dad4b67e18f437805f06c1bbd68f8a554975fa1f48ef5", func := "loop.example/g00313/laws.FnExactChosen", spec := "fnExactChosen", unfollowed := true, recurses := true, apart := false }
def FnExactChosenSaid : Prop := fnExactChosenRow.holds Tryz.pinned (OpenSpec.ofChange fnExactChosenSpec)

/-- ITS FALSE NEIGHBOUR: 'it returns false'. Refute it at one input. -/
def fnExactChosenWrong : ChangeSpec := { name := "fnExactChosen", fn := fun _ => fun
  | [d] => { results := [.lit (.bool false)], args := [d] }
  | _ => none }
def FnExactChosenWrongFalsely : Prop := fnExactChosenRow.holds Tryz.pinned (OpenSpec.ofChange fnExactChosenWrong)

/-- 'laws.FnExactStarted': WHATEVER THE INPUT: true; the input reads as it did. -/
def fnExactStartedSpec : ChangeSpec := { name := "fnExactStarted", fn := fun _ => fun
  | [d1, d2] => { results := [.lit (.bool true)], args := [d1, d2] }
  | _ => none }
def fnExactStartedRow : OpenClaim := { program := "ytkbcplnlehdjfaagreat", sum := "f800ac0cff54954ae60dad4b67e18f437805f06c1bbd68f8a554975fa1f48ef5", func := "loop.example/g00313/laws.FnExactStarted", spec := "fnExactStarted", unfollowed := true, recurses := true, apart := false }
def FnExactStartedSaid : Prop := fnExactStartedRow.holds Tryz.pinned (OpenSpec.ofChange fnExactStartedSpec)

/-- ITS FALSE NEIGHBOUR: 'it returns false'. Refute it at one input. -/
def fnExactStartedWrong : ChangeSpec := { name := "fnExactStarted", fn := fun _ => fun
  | [d1, d2] => { results := [.lit (.bool false)], args := [d1, d2] }
  | _ => none }
def FnExactStartedWrongFalsely : Prop := fnExactStartedRow.holds Tryz.pinned (OpenSpec.ofChange fnExactStartedWrong)

/-- 'laws.FnExactStopped': WHATEVER THE INPUT: true; the input reads as it did. -/
def fnExactStoppedSpec : ChangeSpec := { name := "fnExactStopped", fn := fun _ => fun
  | [d1, d2] => { results := [.lit (.bool true)], args := [d1, d2] }
  | _ => none }
def fnExactStoppedRow : OpenClaim := { program := "ytkbcplnlehdjfaagreat", sum := "f800ac0cff54954ae60dad4b67e18f437805f06c1bbd68f8a554975fa1f48ef5", func := "loop.example/g00313/laws.FnExactStopped", spec := "fnExactStopped", unfollowed := true, recurses := true, apart := false }
def FnExactStoppedSaid : Prop := fnExactStoppedRow.holds Tryz.pinned (OpenSpec.ofChange fnExactStoppedSpec)

/-- ITS FALSE NEIGHBOUR: 'it returns false'. Refute it at one input. -/
def fnExactStoppedWrong : ChangeSpec := { name := "fnExactStopped", fn := fun _ => fun
  | [d1, d2] => { results := [.lit (.bool false)], args := [d1, d2] }
  | _ => none }
def FnExactStoppedWrongFalsely : Prop := fnExactStoppedRow.holds Tryz.pinned (OpenSpec.ofChange fnExactStoppedWrong)

/-- 'laws.FnExactWoken': WHATEVER THE INPUT: true; the input reads as it did. -/
def fnExactWokenSpec : ChangeSpec := { name := "fnExactWoken", fn := fun _ => fun
  | [d1, d2] => { results := [.lit (.bool true)], args := [d1, d2] }
  | _ => none }
def fnExactWokenRow : OpenClaim := { program := "ytkbcplnlehdjfaagreat", sum := "f800ac0cff54954ae60dad4b67e18f437805f06c1bbd68f8a554975fa1f48ef5", func := "loop.example/g00313/laws.FnExactWoken", spec := "fnExactWoken", unfollowed := true, recurses := true, apart := false }
def FnExactWokenSaid : Prop := fnExactWokenRow.holds Tryz.pinned (OpenSpec.ofChange fnExactWokenSpec)

/-- ITS FALSE NEIGHBOUR: 'it returns false'. Refute it at one input. -/
def fnExactWokenWrong : ChangeSpec := { name := "fnExactWoken", fn := fun _ => fun
  | [d1, d2] => { results := [.lit (.bool false)], args := [d1, d2] }
  | _ => none }
def FnExactWokenWrongFalsely : Prop := fnExactWokenRow.holds Tryz.pinned (OpenSpec.ofChange fnExactWokenWrong)

/- THE SECOND FORM. 'bulk': how many values and letters a reading holds, each counted each time it is reached (what is shared counts as often as it is met; a slice's spare places count too). A statement '..UptoSaid' is the law's where the arguments, and the package variables that the reading takes, are together of bulk at most 1048576: NARROWER than '..Said'. Prove '..Said' where nothing that the law and all that it calls make is longer than what came in: it says more and counts as full. Else prove '..UptoSaid'. A law counts once. -/
mutual
def uptoBulk {H : Type} : DataW H → Nat
  | .lit (.string bytes) => bytes.length + 1
  | .lit _ => 1
  | .nil => 1
  | .ptr d => uptoBulk d + 1
  | .slice elems spare => uptoBulkAll elems + uptoBulkAll spare + 1
  | .agg parts => uptoBulkAll parts + 1
  | .iface _ d => uptoBulk d + 1
  | .map entries => uptoBulkEntries entries + 1
  | .held _ => 1
def uptoBulkAll {H : Type} : List (DataW H) → Nat
  | [] => 0
  | d :: r => uptoBulk d + uptoBulkAll r
def uptoBulkEntries {H : Type} : List (Lit × DataW H) → Nat
  | [] => 0
  | x :: r => uptoBulkEntry x + uptoBulkEntries r
def uptoBulkEntry {H : Type} : Lit × DataW H → Nat
  | (.string bytes, d) => bytes.length + uptoBulk d + 1
  | (_, d) => uptoBulk d + 1
 end
def uptoSmall : (H : Type) → List (DataW H) → Bool := fun _ ds => decide (uptoBulkAll ds ≤ 1048576)
def OpenSpec.upto (s : _root_.Go.ChangeSpec) : _root_.Go.OpenSpec := { _root_.Go.OpenSpec.ofChange s with cond := some uptoSmall }

/-- 'laws.FnParts', WHERE WHAT IT READS IS OF BULK AT MOST 1048576: true; the input reads as it did. -/
def fnPartsUptoRow : OpenClaim := { program := "ytkbcplnlehdjfaagreat", sum := "f800ac0cff54954ae60dad4b67e18f437805f06c1bbd68f8a554975fa1f48ef5", func := "loop.example/g00313/laws.FnParts", spec := "fnParts", unfollowed := true, recurses := true, apart := false, narrowed := true }
def FnPartsUptoSaid : Prop := fnPartsUptoRow.holds Tryz.pinned (OpenSpec.upto fnPartsSpec)

/-- 'laws.FnThings', WHERE WHAT IT READS IS OF BULK AT MOST 1048576: true; the input reads as it did. -/
def fnThingsUptoRow : OpenClaim := { program := "ytkbcplnlehdjfaagreat", sum := "f800ac0cff54954ae60dad4b67e18f437805f06c1bbd68f8a554975fa1f48ef5", func := "loop.example/g00313/laws.FnThings", spec := "fnThings", unfollowed := true, recurses := true, apart := false, narrowed := true }
def FnThingsUptoSaid : Prop := fnThingsUptoRow.holds Tryz.pinned (OpenSpec.upto fnThingsSpec)

/-- 'laws.FnStarted', WHERE WHAT IT READS IS OF BULK AT MOST 1048576: true; the input reads as it did. -/
def fnStartedUptoRow : OpenClaim := { program := "ytkbcplnlehdjfaagreat", sum := "f800ac0cff54954ae60dad4b67e18f437805f06c1bbd68f8a554975fa1f48ef5", func := "loop.example/g00313/laws.FnStarted", spec := "fnStarted", unfollowed := true, recurses := true, apart := false, narrowed := true }
def FnStartedUptoSaid : Prop := fnStartedUptoRow.holds Tryz.pinned (OpenSpec.upto fnStartedSpec)

/-- 'laws.FnChosen', WHERE WHAT IT READS IS OF BULK AT MOST 1048576: true; the input reads as it did. -/
def fnChosenUptoRow : OpenClaim := { program := "ytkbcplnlehdjfaagreat", sum := "f800ac0cff54954ae60dad4b67e18f437805f06c1bbd68f8a554975fa1f48ef5", func := "loop.example/g00313/laws.FnChosen", spec := "fnChosen", unfollowed := true, recurses := true, apart := false, narrowed := true }
def FnChosenUptoSaid : Prop := fnChosenUptoRow.holds Tryz.pinned (OpenSpec.upto fnChosenSpec)

/-- 'laws.FnWoken', WHERE WHAT IT READS IS OF BULK AT MOST 1048576: true; the input reads as it did. -/
def fnWokenUptoRow : OpenClaim := { program := "ytkbcplnlehdjfaagreat", sum := "f800ac0cff54954ae60dad4b67e18f437805f06c1bbd68f8a554975fa1f48ef5", func := "loop.example/g00313/laws.FnWoken", spec := "fnWoken", unfollowed := true, recurses := true, apart := false, narrowed := true }
def FnWokenUptoSaid : Prop := fnWokenUptoRow.holds Tryz.pinned (OpenSpec.upto fnWokenSpec)

/-- 'laws.FnExactPartOk', WHERE WHAT IT READS IS OF BULK AT MOST 1048576: true; the input reads as it did. -/
def fnExactPartOkUptoRow : OpenClaim := { program := "ytkbcplnlehdjfaagreat", sum := "f800ac0cff54954ae60dad4b67e18f437805f06c1bbd68f8a554975fa1f48ef5", func := "loop.example/g00313/laws.FnExactPartOk", spec := "fnExactPartOk", unfollowed := true, recurses := true, apart := false, narrowed := true }
def FnExactPartOkUptoSaid : Prop := fnExactPartOkUptoRow.holds Tryz.pinned (OpenSpec.upto fnExactPartOkSpec)

/-- 'laws.FnExactWithProc', WHERE WHAT IT READS IS OF BULK AT MOST 1048576: true; the input reads as it did. -/
def fnExactWithProcUptoRow : OpenClaim := { program := "ytkbcplnlehdjfaagreat", sum := "f800ac0cff54954ae60dad4b67e18f437805f06c1bbd68f8a554975fa1f48ef5", func := "loop.example/g00313/laws.FnExactWithProc", spec := "fnExactWithProc", unfollowed := true, recurses := true, apart := false, narrowed := true }
def FnExactWithProcUptoSaid : Prop := fnExactWithProcUptoRow.holds Tryz.pinned (OpenSpec.upto fnExactWithProcSpec)

/-- 'laws.FnExactWithSem', WHERE WHAT IT READS IS OF BULK AT MOST 1048576: true; the input reads as it did. -/
def fnExactWithSemUptoRow : OpenClaim := { program := "ytkbcplnlehdjfaagreat", sum := "f800ac0cff54954ae60dad4b67e18f437805f06c1bbd68f8a554975fa1f48ef5", func := "loop.example/g00313/laws.FnExactWithSem", spec := "fnExactWithSem", unfollowed := true, recurses := true, apart := false, narrowed := true }
def FnExactWithSemUptoSaid : Prop := fnExactWithSemUptoRow.holds Tryz.pinned (OpenSpec.upto fnExactWithSemSpec)

/-- 'laws.FnExactWithEvent', WHERE WHAT IT READS IS OF BULK AT MOST 1048576: true; the input reads as it did. -/
def fnExactWithEventUptoRow : OpenClaim := { program := "ytkbcplnlehdjfaagreat", sum := "f800ac0cff54954ae60dad4b67e18f437805f06c1bbd68f8a554975fa1f48ef5", func := "loop.example/g00313/laws.FnExactWithEvent", spec := "fnExactWithEvent", unfollowed := true, recurses := true, apart := false, narrowed := true }
def FnExactWithEventUptoSaid : Prop := fnExactWithEventUptoRow.holds Tryz.pinned (OpenSpec.upto fnExactWithEventSpec)

/-- 'laws.FnExactWithBoard', WHERE WHAT IT READS IS OF BULK AT MOST 1048576: true; the input reads as it did. -/
def fnExactWithBoardUptoRow : OpenClaim := { program := "ytkbcplnlehdjfaagreat", sum := "f800ac0cff54954ae60dad4b67e18f437805f06c1bbd68f8a554975fa1f48ef5", func := "loop.example/g00313/laws.FnExactWithBoard", spec := "fnExactWithBoard", unfollowed := true, recurses := true, apart := false, narrowed := true }
def FnExactWithBoardUptoSaid : Prop := fnExactWithBoardUptoRow.holds Tryz.pinned (OpenSpec.upto fnExactWithBoardSpec)

/-- 'laws.FnExactWithBuffer', WHERE WHAT IT READS IS OF BULK AT MOST 1048576: true; the input reads as it did. -/
def fnExactWithBufferUptoRow : OpenClaim := { program := "ytkbcplnlehdjfaagreat", sum := "f800ac0cff54954ae60dad4b67e18f437805f06c1bbd68f8a554975fa1f48ef5", func := "loop.example/g00313/laws.FnExactWithBuffer", spec := "fnExactWithBuffer", unfollowed := true, recurses := true, apart := false, narrowed := true }
def FnExactWithBufferUptoSaid : Prop := fnExactWithBufferUptoRow.holds Tryz.pinned (OpenSpec.upto fnExactWithBufferSpec)

/-- 'laws.FnExactWithPort', WHERE WHAT IT READS IS OF BULK AT MOST 1048576: true; the input reads as it did. -/
def fnExactWithPortUptoRow : OpenClaim := { program := "ytkbcplnlehdjfaagreat", sum := "f800ac0cff54954ae60dad4b67e18f437805f06c1bbd68f8a554975fa1f48ef5", func := "loop.example/g00313/laws.FnExactWithPort", spec := "fnExactWithPort", unfollowed := true, recurses := true, apart := false, narrowed := true }
def FnExactWithPortUptoSaid : Prop := fnExactWithPortUptoRow.holds Tryz.pinned (OpenSpec.upto fnExactWithPortSpec)

/-- 'laws.FnExactProcOf', WHERE WHAT IT READS IS OF BULK AT MOST 1048576: true; the input reads as it did. -/
def fnExactProcOfUptoRow : OpenClaim := { program := "ytkbcplnlehdjfaagreat", sum := "f800ac0cff54954ae60dad4b67e18f437805f06c1bbd68f8a554975fa1f48ef5", func := "loop.example/g00313/laws.FnExactProcOf", spec := "fnExactProcOf", unfollowed := true, recurses := true, apart := false, narrowed := true }
def FnExactProcOfUptoSaid : Prop := fnExactProcOfUptoRow.holds Tryz.pinned (OpenSpec.upto fnExactProcOfSpec)

/-- 'laws.FnExactChosen', WHERE WHAT IT READS IS OF BULK AT MOST 1048576: true; the input reads as it did. -/
def fnExactChosenUptoRow : OpenClaim := { program := "ytkbcplnlehdjfaagreat", sum := "f800ac0cff54954ae60dad4b67e18f437805f06c1bbd68f8a554975fa1f48ef5", func := "loop.example/g00313/laws.FnExactChosen", spec := "fnExactChosen", unfollowed := true, recurses := true, apart := false, narrowed := true }
def FnExactChosenUptoSaid : Prop := fnExactChosenUptoRow.holds Tryz.pinned (OpenSpec.upto fnExactChosenSpec)

/-- 'laws.FnExactStarted', WHERE WHAT IT READS IS OF BULK AT MOST 1048576: true; the input reads as it did. -/
def fnExactStartedUptoRow : OpenClaim := { program := "ytkbcplnlehdjfaagreat", sum := "f800ac0cff54954ae60dad4b67e18f437805f06c1bbd68f8a554975fa1f48ef5", func := "loop.example/g00313/laws.FnExactStarted", spec := "fnExactStarted", unfollowed := true, recurses := true, apart := false, narrowed := true }
def FnExactStartedUptoSaid : Prop := fnExactStartedUptoRow.holds Tryz.pinned (OpenSpec.upto fnExactStartedSpec)

/-- 'laws.FnExactStopped', WHERE WHAT IT READS IS OF BULK AT MOST 1048576: true; the input reads as it did. -/
def fnExactStoppedUptoRow : OpenClaim := { program := "ytkbcplnlehdjfaagreat", sum := "f800ac0cff54954ae60dad4b67e18f437805f06c1bbd68f8a554975fa1f48ef5", func := "loop.example/g00313/laws.FnExactStopped", spec := "fnExactStopped", unfollowed := true, recurses := true, apart := false, narrowed := true }
def FnExactStoppedUptoSaid : Prop := fnExactStoppedUptoRow.holds Tryz.pinned (OpenSpec.upto fnExactStoppedSpec)

/-- 'laws.FnExactWoken', WHERE WHAT IT READS IS OF BULK AT MOST 1048576: true; the input reads as it did. -/
def fnExactWokenUptoRow : OpenClaim := { program := "ytkbcplnlehdjfaagreat", sum := "f800ac0cff54954ae60dad4b67e18f437805f06c1bbd68f8a554975fa1f48ef5", func := "loop.example/g00313/laws.FnExactWoken", spec := "fnExactWoken", unfollowed := true, recurses := true, apart := false, narrowed := true }
def FnExactWokenUptoSaid : Prop := fnExactWokenUptoRow.holds Tryz.pinned (OpenSpec.upto fnExactWokenSpec)

end Rows
end Go.Proofs.YtkbcplnlehdjfaaGreat

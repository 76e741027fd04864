/-
  NARROWER THAN 'FOR EVERY INPUT', by the rows' own cells (each row's printed sentence says how): FnTicked: ifaces, laid · FnOneRuns: ifaces, laid · FnWaits: ifaces, laid · FnTickParts: ifaces, laid.
  DERIVED. THE GIVEN ROWS OF THIS SEAT. 4 by the template 'for every input the law returns true; each argument reads behind the call as it read before'; 0 by the template 'total and deterministic' (their statements: YtfncpmaefninjaaGreatDoorTotals.lean).
  GIVEN WITH THE SEED: the statements are not yours to turn. If you find one false, say at which input.
  Laid BY PROGRAM, IN A SANDBOX (cutbox-rows.mjs): the forced cells as the released guide's own fill.sh prints them over the translation 45fdae3f6755e094… (all of the seat's roots in one cut). By AI agents, Wed Nov 11 2026. No macro, syntax, notation, axiom, sorry.
-/
import Derived.Test.YtfncpmaefninjaaGreatDoorChecked
import GoSem.Claim
import GoSem.ClaimJoined
import GoSem.ClaimMapViews
import Derived.JoinedTies
import Derived.KernelRfl
namespace Go.Proofs.YtfncpmaefninjaaGreatDoor
/- THE CELL 'sum', in the pinned program and in every row, IS THE sha256 OF THE DUMP (.gsa) THAT YtfncpmaefninjaaGreatDoorProg.lean LOADS. Nothing in Lean hashes anything: it is a label: what it is worth is what the hold of that sum in a sandbox is worth. -/
noncomputable def Tryz.pinned : Pinned := { name := "ytfncpmaefninjaagreatdoor", sum := "45fdae3f6755e0947740a43f2e81879a237dc849997982da6e404c885f3ff702", checked := Tryz.checked }
namespace Rows
def none {H : Type} : Left H := { results := [], args := [] }

/- WHAT THE LISTED PACKAGE-LEVEL VARIABLES READ AS WHEN THE CALL BEGINS. Each datum BY PROGRAM (the guide's laid-datum.mjs) off the statement by which the dump's own 'gosem.cut.vars' lays the variable. In a bare row this is a premise. The card (YtfncpmaefninjaaGreatDoorCards.lean) ties it to the program's text. -/
def laid_errors_errorType {H : Type} : DataW H := .iface "internal/reflectlite.rtype" (.agg [.ptr (.lit (.string [101, 114, 114, 111, 114]))])
def laid_loop_example_g00313_impl_errNone {H : Type} : DataW H := .iface "*errors.errorString" (.ptr (.agg [.lit (.string [116, 104, 101, 114, 101, 32, 105, 115, 32, 110, 111, 32, 115, 117, 99, 104, 32, 116, 104, 105, 110, 103])]))
def laid_loop_example_g00313_impl_errNot {H : Type} : DataW H := .iface "*errors.errorString" (.ptr (.agg [.lit (.string [110, 111, 116, 32, 97, 115, 32, 116, 104, 105, 110, 103, 115, 32, 97, 114, 101])]))
def laid_loop_example_g00313_impl_errNotPast {H : Type} : DataW H := .iface "*errors.errorString" (.ptr (.agg [.lit (.string [116, 104, 101, 32, 112, 114, 111, 99, 101, 115, 115, 32, 105, 115, 32, 110, 111, 116, 32, 112, 97, 115, 116, 32, 105, 116, 115, 32, 111, 112])]))

/-- 'laws.FnTicked': WHATEVER THE INPUT: true; the input reads as it did. -/
def fnTickedSpec : ChangeSpec := { name := "fnTicked", vars := ["loop.example/g00313/impl.errNotPast", "loop.example/g00313/impl.errNone", "loop.example/g00313/impl.errNot"], fn := fun _ => fun
  | [d, g1, g2, g3] => { results := [.lit (.bool true)], args := [d], vars := [g1, g2, g3] }
  | _ => none }
def fnTickedRow : OpenClaim := { program := "ytfncpmaefninjaagreatdoor", sum := "45fdae3f6755e0947740a43f2e81879a237dc849997982da6e404c885f3ff702", func := "loop.example/g00313/laws.FnTicked", spec := "fnTicked", inPlace := ["internal/reflectlite.TypeOf", "internal/reflectlite.ValueOf", "(internal/reflectlite.Value).Type", "(internal/reflectlite.Value).IsNil", "(internal/reflectlite.Value).Elem", "(internal/reflectlite.Value).Set"], unfollowed := true, recurses := true, named := ["loop.example/g00313/impl.errNotPast", "loop.example/g00313/impl.errNone", "loop.example/g00313/impl.errNot", "errors.errorType"], ifaces := true, apart := false, laid := [("errors.errorType", laid_errors_errorType), ("loop.example/g00313/impl.errNone", laid_loop_example_g00313_impl_errNone), ("loop.example/g00313/impl.errNot", laid_loop_example_g00313_impl_errNot), ("loop.example/g00313/impl.errNotPast", laid_loop_example_g00313_impl_errNotPast)] }
def FnTickedSaid : Prop := fnTickedRow.holds Tryz.pinned (OpenSpec.ofChange fnTickedSpec)

/-- ITS FALSE NEIGHBOUR: 'it returns false'. Refute it at one input. -/
def fnTickedWrong : ChangeSpec := { name := "fnTicked", vars := ["loop.example/g00313/impl.errNotPast", "loop.example/g00313/impl.errNone", "loop.example/g00313/impl.errNot"], fn := fun _ => fun
  | [d, g1, g2, g3] => { results := [.lit (.bool false)], args := [d], vars := [g1, g2, g3] }
  | _ => none }
def FnTickedWrongFalsely : Prop := fnTickedRow.holds Tryz.pinned (OpenSpec.ofChange fnTickedWrong)

/-- 'laws.FnOneRuns': WHATEVER THE INPUT: true; the input reads as it did. -/
def fnOneRunsSpec : ChangeSpec := { name := "fnOneRuns", vars := ["loop.example/g00313/impl.errNotPast", "loop.example/g00313/impl.errNone", "loop.example/g00313/impl.errNot"], fn := fun _ => fun
  | [d, g1, g2, g3] => { results := [.lit (.bool true)], args := [d], vars := [g1, g2, g3] }
  | _ => none }
def fnOneRunsRow : OpenClaim := { program := "ytfncpmaefninjaagreatdoor", sum := "45fdae3f6755e0947740a43f2e81879a237dc849997982da6e404c885f3ff702", func := "loop.example/g00313/laws.FnOneRuns", spec := "fnOneRuns", inPlace := ["internal/reflectlite.TypeOf", "internal/reflectlite.ValueOf", "(internal/reflectlite.Value).Type", "(internal/reflectlite.Value).IsNil", "(internal/reflectlite.Value).Elem", "(internal/reflectlite.Value).Set"], unfollowed := true, recurses := true, named := ["loop.example/g00313/impl.errNotPast", "loop.example/g00313/impl.errNone", "loop.example/g00313/impl.errNot", "errors.errorType"], ifaces := true, apart := false, laid := [("errors.errorType", laid_errors_errorType), ("loop.example/g00313/impl.errNone", laid_loop_example_g00313_impl_errNone), ("loop.example/g00313/impl.errNot", laid_loop_example_g00313_impl_errNot), ("loop.example/g00313/impl.errNotPast", laid_loop_example_g00313_impl_errNotPast)] }
def FnOneRunsSaid : Prop := fnOneRunsRow.holds Tryz.pinned (OpenSpec.ofChange fnOneRunsSpec)

/-- ITS FALSE NEIGHBOUR: 'it returns false'. Refute it at one input. -/
def fnOneRunsWrong : ChangeSpec := { name := "fnOneRuns", vars := ["loop.example/g00313/impl.errNotPast", "loop.example/g00313/impl.errNone", "loop.example/g00313/impl.errNot"], fn := fun _ => fun
  | [d, g1, g2, g3] => { results := [.lit (.bool false)], args := [d], vars := [g1, g2, g3] }
  | _ => none }
def FnOneRunsWrongFalsely : Prop := fnOneRunsRow.holds Tryz.pinned (OpenSpec.ofChange fnOneRunsWrong)

/-- 'laws.FnWaits': WHATEVER THE INPUT: true; the input reads as it did. -/
def fnWaitsSpec : ChangeSpec := { name := "fnWaits", vars := ["loop.example/g00313/impl.errNotPast", "loop.example/g00313/impl.errNone", "loop.example/g00313/impl.errNot"], fn := fun _ => fun
  | [d, g1, g2, g3] => { results := [.lit (.bool true)], args := [d], vars := [g1, g2, g3] }
  | _ => none }
def fnWaitsRow : OpenClaim := { program := "ytfncpmaefninjaagreatdoor", sum := "45fdae3f6755e0947740a43f2e81879a237dc849997982da6e404c885f3ff702", func := "loop.example/g00313/laws.FnWaits", spec := "fnWaits", inPlace := ["internal/reflectlite.TypeOf", "internal/reflectlite.ValueOf", "(internal/reflectlite.Value).Type", "(internal/reflectlite.Value).IsNil", "(internal/reflectlite.Value).Elem", "(internal/reflectlite.Value).Set"], unfollowed := true, recurses := true, named := ["loop.example/g00313/impl.errNotPast", "loop.example/g00313/impl.errNone", "loop.example/g00313/impl.errNot", "errors.errorType"], ifaces := true, apart := false, laid := [("errors.errorType", laid_errors_errorType), ("loop.example/g00313/impl.errNone", laid_loop_example_g00313_impl_errNone), ("loop.example/g00313/impl.errNot", laid_loop_example_g00313_impl_errNot), ("loop.example/g00313/impl.errNotPast", laid_loop_example_g00313_impl_errNotPast)] }
def FnWaitsSaid : Prop := fnWaitsRow.holds Tryz.pinned (OpenSpec.ofChange fnWaitsSpec)

/-- ITS FALSE NEIGHBOUR: 'it returns false'. Refute it at one input. -/
def fnWaitsWrong : ChangeSpec := { name := "fnWaits", vars := ["loop.example/g00313/impl.errNotPast", "loop.example/g00313/impl.errNone", "loop.example/g00313/impl.errNot"], fn := fun _ => fun
  | [d, g1, g2, g3] => { results := [.lit (.bool false)], args := [d], vars := [g1, g2, g3] }
  | _ => none }
def FnWaitsWrongFalsely : Prop := fnWaitsRow.holds Tryz.pinned (OpenSpec.ofChange fnWaitsWrong)

/-- 'laws.FnTickParts': WHATEVER THE INPUT: true; the input reads as it did. -/
def fnTickPartsSpec : ChangeSpec := { name := "fnTickParts", vars := ["loop.example/g00313/impl.errNotPast", "loop.example/g00313/impl.errNone", "loop.example/g00313/impl.errNot"], fn := fun _ => fun
  | [d, g1, g2, g3] => { results := [.lit (.bool true)], args := [d], vars := [g1, g2, g3] }
  | _ => none }
def fnTickPartsRow : OpenClaim := { program := "ytfncpmaefninjaagreatdoor", sum := "45fdae3f6755e0947740a43f2e81879a237dc849997982da6e404c885f3ff702", func := "loop.example/g00313/laws.FnTickParts", spec := "fnTickParts", inPlace := ["internal/reflectlite.TypeOf", "internal/reflectlite.ValueOf", "(internal/reflectlite.Value).Type", "(internal/reflectlite.Value).IsNil", "(internal/reflectlite.Value).Elem", "(internal/reflectlite.Value).Set"], unfollowed := true, recurses := true, named := ["loop.example/g00313/impl.errNotPast", "loop.example/g00313/impl.errNone", "loop.example/g00313/impl.errNot", "errors.errorType"], ifaces := true, apart := false, laid := [("errors.errorType", laid_errors_errorType), ("loop.example/g00313/impl.errNone", laid_loop_example_g00313_impl_errNone), ("loop.example/g00313/impl.errNot", laid_loop_example_g00313_impl_errNot), ("loop.example/g00313/impl.errNotPast", laid_loop_example_g00313_impl_errNotPast)] }
def FnTickPartsSaid : Prop := fnTickPartsRow.holds Tryz.pinned (OpenSpec.ofChange fnTickPartsSpec)

/-- ITS FALSE NEIGHBOUR: 'it returns false'. Refute it at one input. -/
def fnTickPartsWrong : ChangeSpec := { name := "fnTickParts", vars := ["loop.example/g00313/impl.errNotPast", "loop.example/g00313/impl.errNone", "loop.example/g00313/impl.errNot"], fn := fun _ => fun
  | [d, g1, g2, g3] => { results := [.lit (.bool false)], args := [d], vars := [g1, g2, g3] }
  | _ => none }
def FnTickPartsWrongFalsely : Prop := fnTickPartsRow.holds Tryz.pinned (OpenSpec.ofChange fnTickPartsWrong)

/- THE SECOND FORM. 'bulk': how many values and letters a reading holds, each counted each time it is reached (what is shared counts as often as it is met; a slice's spare places count too). A statement '..UptoSaid' is the law's where the arguments, and the package variables that the reading takes, are together of bulk at most 1048576: NARROWER than '..Said'. Prove '..Said' where nothing that the law and all that it calls make is longer than what came in: it says more and counts as full. Else prove '..UptoSaid'. A law counts once. -/
mutual
def uptoBulk {H : Type} : DataW H → Nat
  | .lit (.string bytes) => bytes.length + 1
  | .lit _ => 1
  | .nil => 1
  | .ptr d => uptoBulk d + 1
  | .slice elems spare => uptoBulkAll elems + uptoBulkAll spare + 1
  | .agg parts => uptoBulkAll parts + 1
  | .iface _ d => uptoBulk d + 1
  | .map entries => uptoBulkEntries entries + 1
  | .held _ => 1
def uptoBulkAll {H : Type} : List (DataW H) → Nat
  | [] => 0
  | d :: r => uptoBulk d + uptoBulkAll r
def uptoBulkEntries {H : Type} : List (Lit × DataW H) → Nat
  | [] => 0
  | x :: r => uptoBulkEntry x + uptoBulkEntries r
def uptoBulkEntry {H : Type} : Lit × DataW H → Nat
  | (.string bytes, d) => bytes.length + uptoBulk d + 1
  | (_, d) => uptoBulk d + 1
 end
def uptoSmall : (H : Type) → List (DataW H) → Bool := fun _ ds => decide (uptoBulkAll ds ≤ 1048576)
def OpenSpec.upto (s : _root_.Go.ChangeSpec) : _root_.Go.OpenSpec := { _root_.Go.OpenSpec.ofChange s with cond := some uptoSmall }

/-- 'laws.FnTicked', WHERE WHAT IT READS IS OF BULK AT MOST 1048576: true; the input reads as it did. -/
def fnTickedUptoRow : OpenClaim := { program := "ytfncpmaefninjaagreatdoor", sum := "45fdae3f6755e0947740a43f2e81879a237dc849997982da6e404c885f3ff702", func := "loop.example/g00313/laws.FnTicked", spec := "fnTicked", inPlace := ["internal/reflectlite.TypeOf", "internal/reflectlite.ValueOf", "(internal/reflectlite.Value).Type", "(internal/reflectlite.Value).IsNil", "(internal/reflectlite.Value).Elem", "(internal/reflectlite.Value).Set"], unfollowed := true, recurses := true, named := ["loop.example/g00313/impl.errNotPast", "loop.example/g00313/impl.errNone", "loop.example/g00313/impl.errNot", "errors.errorType"], ifaces := true, apart := false, laid := [("errors.errorType", laid_errors_errorType), ("loop.example/g00313/impl.errNone", laid_loop_example_g00313_impl_errNone), ("loop.example/g00313/impl.errNot", laid_loop_example_g00313_impl_errNot), ("loop.example/g00313/impl.errNotPast", laid_loop_example_g00313_impl_errNotPast)], narrowed := true }
def FnTickedUptoSaid : Prop := fnTickedUptoRow.holds Tryz.pinned (OpenSpec.upto fnTickedSpec)

/-- 'laws.FnOneRuns', WHERE WHAT IT READS IS OF BULK AT MOST 1048576: true; the input reads as it did. -/
def fnOneRunsUptoRow : OpenClaim := { program := "ytfncpmaefninjaagreatdoor", sum := "45fdae3f6755e0947740a43f2e81879a237dc849997982da6e404c885f3ff702", func := "loop.example/g00313/laws.FnOneRuns", spec := "fnOneRuns", inPlace := ["internal/reflectlite.TypeOf", "internal/reflectlite.ValueOf", "(internal/reflectlite.Value).Type", "(internal/reflectlite.Value).IsNil", "(internal/reflectlite.Value).Elem", "(internal/reflectlite.Value).Set"], unfollowed := true, recurses := true, named := ["loop.example/g00313/impl.errNotPast", "loop.example/g00313/impl.errNone", "loop.example/g00313/impl.errNot", "errors.errorType"], ifaces := true, apart := false, laid := [("errors.errorType", laid_errors_errorType), ("loop.example/g00313/impl.errNone", laid_loop_example_g00313_impl_errNone), ("loop.example/g00313/impl.errNot", laid_loop_example_g00313_impl_errNot), ("loop.example/g00313/impl.errNotPast", laid_loop_example_g00313_impl_errNotPast)], narrowed := true }
def FnOneRunsUptoSaid : Prop := fnOneRunsUptoRow.holds Tryz.pinned (OpenSpec.upto fnOneRunsSpec)

/-- 'laws.FnWaits', WHERE WHAT IT READS IS OF BULK AT MOST 1048576: true; the input reads as it did. -/
def fnWaitsUptoRow : OpenClaim := { program := "ytfncpmaefninjaagreatdoor", sum := "45fdae3f6755e0947740a43f2e81879a237dc849997982da6e404c885f3ff702", func := "loop.example/g00313/laws.FnWaits", spec := "fnWaits", inPlace := ["internal/reflectlite.TypeOf", "internal/reflectlite.ValueOf", "(internal/reflectlite.Value).Type", "(internal/reflectlite.Value).IsNil", "(internal/reflectlite.Value).Elem", "(internal/reflectlite.Value).Set"], unfollowed := true, recurses := true, named := ["loop.example/g00313/impl.errNotPast", "loop.example/g00313/impl.errNone", "loop.example/g00313/impl.errNot", "errors.errorType"], ifaces := true, apart := false, laid := [("errors.errorType", laid_errors_errorType), ("loop.example/g00313/impl.errNone", laid_loop_example_g00313_impl_errNone), ("loop.example/g00313/impl.errNot", laid_loop_example_g00313_impl_errNot), ("loop.example/g00313/impl.errNotPast", laid_loop_example_g00313_impl_errNotPast)], narrowed := true }
def FnWaitsUptoSaid : Prop := fnWaitsUptoRow.holds Tryz.pinned (OpenSpec.upto fnWaitsSpec)

/-- 'laws.FnTickParts', WHERE WHAT IT READS IS OF BULK AT MOST 1048576: true; the input reads as it did. -/
def fnTickPartsUptoRow : OpenClaim := { program := "ytfncpmaefninjaagreatdoor", sum := "45fdae3f6755e0947740a43f2e81879a237dc849997982da6e404c885f3ff702", func := "loop.example/g00313/laws.FnTickParts", spec := "fnTickParts", inPlace := ["internal/reflectlite.TypeOf", "internal/reflectlite.ValueOf", "(internal/reflectlite.Value).Type", "(internal/reflectlite.Value).IsNil", "(internal/reflectlite.Value).Elem", "(internal/reflectlite.Value).Set"], unfollowed := true, recurses := true, named := ["loop.example/g00313/impl.errNotPast", "loop.example/g00313/impl.errNone", "loop.example/g00313/impl.errNot", "errors.errorType"], ifaces := true, apart := false, laid := [("errors.errorType", laid_errors_errorType), ("loop.example/g00313/impl.errNone", laid_loop_example_g00313_impl_errNone), ("loop.example/g00313/impl.errNot", laid_loop_example_g00313_impl_errNot), ("loop.example/g00313/impl.errNotPast", laid_loop_example_g00313_impl_errNotPast)], narrowed := true }
def FnTickPartsUptoSaid : Prop := fnTickPartsUptoRow.holds Tryz.pinned (OpenSpec.upto fnTickPartsSpec)

end Rows
end Go.Proofs.YtfncpmaefninjaaGreatDoor

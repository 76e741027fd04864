/-
  NARROWER THAN 'FOR EVERY INPUT', by the rows' own cells (each row's printed sentence says how): FnRuns: ifaces, laid · FnTimes: ifaces, laid · FnPriorities: ifaces, laid · FnHandedOver: ifaces, laid.
  DERIVED. THE GIVEN ROWS OF THIS SEAT. 4 by the template 'for every input the law returns true; each argument reads behind the call as it read before'; 0 by the template 'total and deterministic' (their statements: YtgdmbemagdbmaaaGreatDoorTotals.lean).
  GIVEN WITH THE SEED: the statements are not yours to turn. If you find one false, say at which input.
  Laid BY PROGRAM, IN A SANDBOX (cutbox-rows.mjs): the forced cells as the released guide's own fill.sh prints them over the translation b382f58e49d9d87f… (all of the seat's roots in one cut). By AI agents, Wed Nov 11 2026. No macro, syntax, notation, axiom, sorry.
-/
import Derived.Test.YtgdmbemagdbmaaaGreatDoorChecked
import GoSem.Claim
import GoSem.ClaimJoined
import GoSem.ClaimMapViews
import Derived.JoinedTies
import Derived.KernelRfl
namespace Go.Proofs.YtgdmbemagdbmaaaGreatDoor
/- THE CELL 'sum', in the pinned program and in every row, IS THE sha256 OF THE DUMP (.gsa) THAT YtgdmbemagdbmaaaGreatDoorProg.lean LOADS. Nothing in Lean hashes anything: it is a label: what it is worth is what the hold of that sum in a sandbox is worth. -/
noncomputable def Tryz.pinned : Pinned := { name := "ytgdmbemagdbmaaagreatdoor", sum := "b382f58e49d9d87fb63264c6da406aaa44bb799785c3dac5329f860a5d90c649", checked := Tryz.checked }
namespace Rows
def none {H : Type} : Left H := { results := [], args := [] }

/- WHAT THE LISTED PACKAGE-LEVEL VARIABLES READ AS WHEN THE CALL BEGINS. Each datum BY PROGRAM (the guide's laid-datum.mjs) off the statement by which the dump's own 'gosem.cut.vars' lays the variable. In a bare row this is a premise. The card (YtgdmbemagdbmaaaGreatDoorCards.lean) ties it to the program's text. -/
def laid_errors_errorType {H : Type} : DataW H := .iface "internal/reflectlite.rtype" (.agg [.ptr (.lit (.string [101, 114, 114, 111, 114]))])
def laid_loop_example_g00313_impl_errNone {H : Type} : DataW H := .iface "*errors.errorString" (.ptr (.agg [.lit (.string [116, 104, 101, 114, 101, 32, 105, 115, 32, 110, 111, 32, 115, 117, 99, 104, 32, 116, 104, 105, 110, 103])]))
def laid_loop_example_g00313_impl_errNot {H : Type} : DataW H := .iface "*errors.errorString" (.ptr (.agg [.lit (.string [110, 111, 116, 32, 97, 115, 32, 116, 104, 105, 110, 103, 115, 32, 97, 114, 101])]))
def laid_loop_example_g00313_impl_errNotPast {H : Type} : DataW H := .iface "*errors.errorString" (.ptr (.agg [.lit (.string [116, 104, 101, 32, 112, 114, 111, 99, 101, 115, 115, 32, 105, 115, 32, 110, 111, 116, 32, 112, 97, 115, 116, 32, 105, 116, 115, 32, 111, 112])]))

/-- 'laws.FnRuns': WHATEVER THE INPUT: true; the input reads as it did. -/
def fnRunsSpec : ChangeSpec := { name := "fnRuns", vars := ["loop.example/g00313/impl.errNotPast", "loop.example/g00313/impl.errNone", "loop.example/g00313/impl.errNot"], fn := fun _ => fun
  | [d, g1, g2, g3] => { results := [.lit (.bool true)], args := [d], vars := [g1, g2, g3] }
  | _ => none }
def fnRunsRow : OpenClaim := { program := "ytgdmbemagdbmaaagreatdoor", sum := "b382f58e49d9d87fb63264c6da406aaa44bb799785c3dac5329f860a5d90c649", func := "loop.example/g00313/laws.FnRuns", spec := "fnRuns", inPlace := ["internal/reflectlite.TypeOf", "internal/reflectlite.ValueOf", "(internal/reflectlite.Value).Type", "(internal/reflectlite.Value).IsNil", "(internal/reflectlite.Value).Elem", "(internal/reflectlite.Value).Set"], unfollowed := true, recurses := true, named := ["loop.example/g00313/impl.errNotPast", "loop.example/g00313/impl.errNone", "loop.example/g00313/impl.errNot", "errors.errorType"], ifaces := true, apart := false, laid := [("errors.errorType", laid_errors_errorType), ("loop.example/g00313/impl.errNone", laid_loop_example_g00313_impl_errNone), ("loop.example/g00313/impl.errNot", laid_loop_example_g00313_impl_errNot), ("loop.example/g00313/impl.errNotPast", laid_loop_example_g00313_impl_errNotPast)] }
def FnRunsSaid : Prop := fnRunsRow.holds Tryz.pinned (OpenSpec.ofChange fnRunsSpec)

/-- ITS FALSE NEIGHBOUR: 'it returns false'. Refute it at one input. -/
def fnRunsWrong : ChangeSpec := { name := "fnRuns", vars := ["loop.example/g00313/impl.errNotPast", "loop.example/g00313/impl.errNone", "loop.example/g00313/impl.errNot"], fn := fun _ => fun
  | [d, g1, g2, g3] => { results := [.lit (.bool false)], args := [d], vars := [g1, g2, g3] }
  | _ => none }
def FnRunsWrongFalsely : Prop := fnRunsRow.holds Tryz.pinned (OpenSpec.ofChange fnRunsWrong)

/-- 'laws.FnTimes': WHATEVER THE INPUT: true; the input reads as it did. -/
def fnTimesSpec : ChangeSpec := { name := "fnTimes", vars := ["loop.example/g00313/impl.errNotPast", "loop.example/g00313/impl.errNone", "loop.example/g00313/impl.errNot"], fn := fun _ => fun
  | [d, g1, g2, g3] => { results := [.lit (.bool true)], args := [d], vars := [g1, g2, g3] }
  | _ => none }
def fnTimesRow : OpenClaim := { program := "ytgdmbemagdbmaaagreatdoor", sum := "b382f58e49d9d87fb63264c6da406aaa44bb799785c3dac5329f860a5d90c649", func := "loop.example/g00313/laws.FnTimes", spec := "fnTimes", inPlace := ["internal/reflectlite.TypeOf", "internal/reflectlite.ValueOf", "(internal/reflectlite.Value).Type", "(internal/reflectlite.Value).IsNil", "(internal/reflectlite.Value).Elem", "(internal/reflectlite.Value).Set"], unfollowed := true, recurses := true, named := ["loop.example/g00313/impl.errNotPast", "loop.example/g00313/impl.errNone", "loop.example/g00313/impl.errNot", "errors.errorType"], ifaces := true, apart := false, laid := [("errors.errorType", laid_errors_errorType), ("loop.example/g00313/impl.errNone", laid_loop_example_g00313_impl_errNone), ("loop.example/g00313/impl.errNot", laid_loop_example_g00313_impl_errNot), ("loop.example/g00313/impl.errNotPast", laid_loop_example_g00313_impl_errNotPast)] }
def FnTimesSaid : Prop := fnTimesRow.holds Tryz.pinned (OpenSpec.ofChange fnTimesSpec)

/-- ITS FALSE NEIGHBOUR: 'it returns false'. Refute it at one input. -/
def fnTimesWrong : ChangeSpec := { name := "fnTimes", vars := ["loop.example/g00313/impl.errNotPast", "loop.example/g00313/impl.errNone", "loop.example/g00313/impl.errNot"], fn := fun _ => fun
  | [d, g1, g2, g3] => { results := [.lit (.bool false)], args := [d], vars := [g1, g2, g3] }
  | _ => none }
def FnTimesWrongFalsely : Prop := fnTimesRow.holds Tryz.pinned (OpenSpec.ofChange fnTimesWrong)

/-- 'laws.FnPriorities': WHATEVER THE INPUT: true; the input reads as it did. -/
def fnPrioritiesSpec : ChangeSpec := { name := "fnPriorities", vars := ["loop.example/g00313/impl.errNotPast", "loop.example/g00313/impl.errNone", "loop.example/g00313/impl.errNot"], fn := fun _ => fun
  | [d, g1, g2, g3] => { results := [.lit (.bool true)], args := [d], vars := [g1, g2, g3] }
  | _ => none }
def fnPrioritiesRow : OpenClaim := { program := "ytgdmbemagdbmaaagreatdoor", sum := "b382f58e49d9d87fb63264c6da406aaa44bb799785c3dac5329f860a5d90c649", func := "loop.example/g00313/laws.FnPriorities", spec := "fnPriorities", inPlace := ["internal/reflectlite.TypeOf", "internal/reflectlite.ValueOf", "(internal/reflectlite.Value).Type", "(internal/reflectlite.Value).IsNil", "(internal/reflectlite.Value).Elem", "(internal/reflectlite.Value).Set"], unfollowed := true, recurses := true, named := ["loop.example/g00313/impl.errNotPast", "loop.example/g00313/impl.errNone", "loop.example/g00313/impl.errNot", "errors.errorType"], ifaces := true, apart := false, laid := [("errors.errorType", laid_errors_errorType), ("loop.example/g00313/impl.errNone", laid_loop_example_g00313_impl_errNone), ("loop.example/g00313/impl.errNot", laid_loop_example_g00313_impl_errNot), ("loop.example/g00313/impl.errNotPast", laid_loop_example_g00313_impl_errNotPast)] }
def FnPrioritiesSaid : Prop := fnPrioritiesRow.holds Tryz.pinned (OpenSpec.ofChange fnPrioritiesSpec)

/-- ITS FALSE NEIGHBOUR: 'it returns false'. Refute it at one input. -/
def fnPrioritiesWrong : ChangeSpec := { name := "fnPriorities", vars := ["loop.example/g00313/impl.errNotPast", "loop.example/g00313/impl.errNone", "loop.example/g00313/impl.errNot"], fn := fun _ => fun
  | [d, g1, g2, g3] => { results := [.lit (.bool false)], args := [d], vars := [g1, g2, g3] }
  | _ => none }
def FnPrioritiesWrongFalsely : Prop := fnPrioritiesRow.holds Tryz.pinned (OpenSpec.ofChange fnPrioritiesWrong)

/-- 'laws.FnHandedOver': WHATEVER THE INPUT: true; the input reads as it did. -/
def fnHandedOverSpec : ChangeSpec := { name := "fnHandedOver", vars := ["loop.example/g00313/impl.errNotPast", "loop.example/g00313/impl.errNone", "loop.example/g00313/impl.errNot"], fn := fun _ => fun
  | [d, g1, g2, g3] => { results := [.lit (.bool true)], args := [d], vars := [g1, g2, g3] }
  | _ => none }
def fnHandedOverRow : OpenClaim := { program := "ytgdmbemagdbmaaagreatdoor", sum := "b382f58e49d9d87fb63264c6da406aaa44bb799785c3dac5329f860a5d90c649", func := "loop.example/g00313/laws.FnHandedOver", spec := "fnHandedOver", inPlace := ["internal/reflectlite.TypeOf", "internal/reflectlite.ValueOf", "(internal/reflectlite.Value).Type", "(internal/reflectlite.Value).IsNil", "(internal/reflectlite.Value).Elem", "(internal/reflectlite.Value).Set"], unfollowed := true, recurses := true, named := ["loop.example/g00313/impl.errNotPast", "loop.example/g00313/impl.errNone", "loop.example/g00313/impl.errNot", "errors.errorType"], ifaces := true, apart := false, laid := [("errors.errorType", laid_errors_errorType), ("loop.example/g00313/impl.errNone", laid_loop_example_g00313_impl_errNone), ("loop.example/g00313/impl.errNot", laid_loop_example_g00313_impl_errNot), ("loop.example/g00313/impl.errNotPast", laid_loop_example_g00313_impl_errNotPast)] }
def FnHandedOverSaid : Prop := fnHandedOverRow.holds Tryz.pinned (OpenSpec.ofChange fnHandedOverSpec)

/-- ITS FALSE NEIGHBOUR: 'it returns false'. Refute it at one input. -/
def fnHandedOverWrong : ChangeSpec := { name := "fnHandedOver", vars := ["loop.example/g00313/impl.errNotPast", "loop.example/g00313/impl.errNone", "loop.example/g00313/impl.errNot"], fn := fun _ => fun
  | [d, g1, g2, g3] => { results := [.lit (.bool false)], args := [d], vars := [g1, g2, g3] }
  | _ => none }
def FnHandedOverWrongFalsely : Prop := fnHandedOverRow.holds Tryz.pinned (OpenSpec.ofChange fnHandedOverWrong)

/- THE SECOND FORM. 'bulk': how many values and letters a reading holds, each counted each time it is reached (what is shared counts as often as it is met; a slice's spare places count too). A statement '..UptoSaid' is the law's where the arguments, and the package variables that the reading takes, are together of bulk at most 1048576: NARROWER than '..Said'. Prove '..Said' where nothing that the law and all that it calls make is longer than what came in: it says more and counts as full. Else prove '..UptoSaid'. A law counts once. -/
mutual
def uptoBulk {H : Type} : DataW H → Nat
  | .lit (.string bytes) => bytes.length + 1
  | .lit _ => 1
  | .nil => 1
  | .ptr d => uptoBulk d + 1
  | .slice elems spare => uptoBulkAll elems + uptoBulkAll spare + 1
  | .agg parts => uptoBulkAll parts + 1
  | .iface _ d => uptoBulk d + 1
  | .map entries => uptoBulkEntries entries + 1
  | .held _ => 1
def uptoBulkAll {H : Type} : List (DataW H) → Nat
  | [] => 0
  | d :: r => uptoBulk d + uptoBulkAll r
def uptoBulkEntries {H : Type} : List (Lit × DataW H) → Nat
  | [] => 0
  | x :: r => uptoBulkEntry x + uptoBulkEntries r
def uptoBulkEntry {H : Type} : Lit × DataW H → Nat
  | (.string bytes, d) => bytes.length + uptoBulk d + 1
  | (_, d) => uptoBulk d + 1
 end
def uptoSmall : (H : Type) → List (DataW H) → Bool := fun _ ds => decide (uptoBulkAll ds ≤ 1048576)
def OpenSpec.upto (s : _root_.Go.ChangeSpec) : _root_.Go.OpenSpec := { _root_.Go.OpenSpec.ofChange s with cond := some uptoSmall }

/-- 'laws.FnRuns', WHERE WHAT IT READS IS OF BULK AT MOST 1048576: true; the input reads as it did. -/
def fnRunsUptoRow : OpenClaim := { program := "ytgdmbemagdbmaaagreatdoor", sum := "b382f58e49d9d87fb63264c6da406aaa44bb799785c3dac5329f860a5d90c649", func := "loop.example/g00313/laws.FnRuns", spec := "fnRuns", inPlace := ["internal/reflectlite.TypeOf", "internal/reflectlite.ValueOf", "(internal/reflectlite.Value).Type", "(internal/reflectlite.Value).IsNil", "(internal/reflectlite.Value).Elem", "(internal/reflectlite.Value).Set"], unfollowed := true, recurses := true, named := ["loop.example/g00313/impl.errNotPast", "loop.example/g00313/impl.errNone", "loop.example/g00313/impl.errNot", "errors.errorType"], ifaces := true, apart := false, laid := [("errors.errorType", laid_errors_errorType), ("loop.example/g00313/impl.errNone", laid_loop_example_g00313_impl_errNone), ("loop.example/g00313/impl.errNot", laid_loop_example_g00313_impl_errNot), ("loop.example/g00313/impl.errNotPast", laid_loop_example_g00313_impl_errNotPast)], narrowed := true }
def FnRunsUptoSaid : Prop := fnRunsUptoRow.holds Tryz.pinned (OpenSpec.upto fnRunsSpec)

/-- 'laws.FnTimes', WHERE WHAT IT READS IS OF BULK AT MOST 1048576: true; the input reads as it did. -/
def fnTimesUptoRow : OpenClaim := { program := "ytgdmbemagdbmaaagreatdoor", sum := "b382f58e49d9d87fb63264c6da406aaa44bb799785c3dac5329f860a5d90c649", func := "loop.example/g00313/laws.FnTimes", spec := "fnTimes", inPlace := ["internal/reflectlite.TypeOf", "internal/reflectlite.ValueOf", "(internal/reflectlite.Value).Type", "(internal/reflectlite.Value).IsNil", "(internal/reflectlite.Value).Elem", "(internal/reflectlite.Value).Set"], unfollowed := true, recurses := true, named := ["loop.example/g00313/impl.errNotPast", "loop.example/g00313/impl.errNone", "loop.example/g00313/impl.errNot", "errors.errorType"], ifaces := true, apart := false, laid := [("errors.errorType", laid_errors_errorType), ("loop.example/g00313/impl.errNone", laid_loop_example_g00313_impl_errNone), ("loop.example/g00313/impl.errNot", laid_loop_example_g00313_impl_errNot), ("loop.example/g00313/impl.errNotPast", laid_loop_example_g00313_impl_errNotPast)], narrowed := true }
def FnTimesUptoSaid : Prop := fnTimesUptoRow.holds Tryz.pinned (OpenSpec.upto fnTimesSpec)

/-- 'laws.FnPriorities', WHERE WHAT IT READS IS OF BULK AT MOST 1048576: true; the input reads as it did. -/
def fnPrioritiesUptoRow : OpenClaim := { program := "ytgdmbemagdbmaaagreatdoor", sum := "b382f58e49d9d87fb63264c6da406aaa44bb799785c3dac5329f860a5d90c649", func := "loop.example/g00313/laws.FnPriorities", spec := "fnPriorities", inPlace := ["internal/reflectlite.TypeOf", "internal/reflectlite.ValueOf", "(internal/reflectlite.Value).Type", "(internal/reflectlite.Value).IsNil", "(internal/reflectlite.Value).Elem", "(internal/reflectlite.Value).Set"], unfollowed := true, recurses := true, named := ["loop.example/g00313/impl.errNotPast", "loop.example/g00313/impl.errNone", "loop.example/g00313/impl.errNot", "errors.errorType"], ifaces := true, apart := false, laid := [("errors.errorType", laid_errors_errorType), ("loop.example/g00313/impl.errNone", laid_loop_example_g00313_impl_errNone), ("loop.example/g00313/impl.errNot", laid_loop_example_g00313_impl_errNot), ("loop.example/g00313/impl.errNotPast", laid_loop_example_g00313_impl_errNotPast)], narrowed := true }
def FnPrioritiesUptoSaid : Prop := fnPrioritiesUptoRow.holds Tryz.pinned (OpenSpec.upto fnPrioritiesSpec)

/-- 'laws.FnHandedOver', WHERE WHAT IT READS IS OF BULK AT MOST 1048576: true; the input reads as it did. -/
def fnHandedOverUptoRow : OpenClaim := { program := "ytgdmbemagdbmaaagreatdoor", sum := "b382f58e49d9d87fb63264c6da406aaa44bb799785c3dac5329f860a5d90c649", func := "loop.example/g00313/laws.FnHandedOver", spec := "fnHandedOver", inPlace := ["internal/reflectlite.TypeOf", "internal/reflectlite.ValueOf", "(internal/reflectlite.Value).Type", "(internal/reflectlite.Value).IsNil", "(internal/reflectlite.Value).Elem", "(internal/reflectlite.Value).Set"], unfollowed := true, recurses := true, named := ["loop.example/g00313/impl.errNotPast", "loop.example/g00313/impl.errNone", "loop.example/g00313/impl.errNot", "errors.errorType"], ifaces := true, apart := false, laid := [("errors.errorType", laid_errors_errorType), ("loop.example/g00313/impl.errNone", laid_loop_example_g00313_impl_errNone), ("loop.example/g00313/impl.errNot", laid_loop_example_g00313_impl_errNot), ("loop.example/g00313/impl.errNotPast", laid_loop_example_g00313_impl_errNotPast)], narrowed := true }
def FnHandedOverUptoSaid : Prop := fnHandedOverUptoRow.holds Tryz.pinned (OpenSpec.upto fnHandedOverSpec)

end Rows
end Go.Proofs.YtgdmbemagdbmaaaGreatDoor

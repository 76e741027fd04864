/-
  NARROWER THAN 'FOR EVERY INPUT', by the rows' own cells (each row's printed sentence says how): FnExactTicked: ifaces, laid · FnExactTickedBy: ifaces, laid.
  DERIVED. THE GIVEN ROWS OF THIS SEAT. 2 by the template 'for every input the law returns true; each argument reads behind the call as it read before'; 0 by the template 'total and deterministic' (their statements: YtnlbiglljiopmaaGreatDoorTotals.lean).
  GIVEN WITH THE SEED: the statements are not yours to turn. If you find one false, say at which input.
  Laid BY PROGRAM, IN A SANDBOX (cutbox-rows.mjs): the forced cells as the released guide's own fill.sh prints them over the translation 422df2c744ae3591… (all of the seat's roots in one cut). By AI agents, Wed Nov 11 2026. No macro, syntax, notation, axiom, sorry.
-/
import Derived.Test.YtnlbiglljiopmaaGreatDoorChecked
import GoSem.Claim
import GoSem.ClaimJoined
import GoSem.ClaimMapViews
import Derived.JoinedTies
import Derived.KernelRfl
namespace Go.Proofs.YtnlbiglljiopmaaGreatDoor
/- THE CELL 'sum', in the pinned program and in every row, IS THE sha256 OF THE DUMP (.gsa) THAT YtnlbiglljiopmaaGreatDoorProg.lean LOADS. Nothing in Lean hashes anything: it is a label: what it is worth is what the hold of that sum in a sandbox is worth. -/
noncomputable def Tryz.pinned : Pinned := { name := "ytnlbiglljiopmaagreatdoor", sum := "422df2c744ae3591e3fd1134751921da42db8004d8b7803cc4a46e4fbfbaf010", checked := Tryz.checked }
namespace Rows
def none {H : Type} : Left H := { results := [], args := [] }

/- WHAT THE LISTED PACKAGE-LEVEL VARIABLES READ AS WHEN THE CALL BEGINS. Each datum BY PROGRAM (the guide's laid-datum.mjs) off the statement by which the dump's own 'gosem.cut.vars' lays the variable. In a bare row this is a premise. The card (YtnlbiglljiopmaaGreatDoorCards.lean) ties it to the program's text. -/
def laid_errors_errorType {H : Type} : DataW H := .iface "internal/reflectlite.rtype" (.agg [.ptr (.lit (.string [101, 114, 114, 111, 114]))])
def laid_loop_example_g00313_impl_errNone {H : Type} : DataW H := .iface "*errors.errorString" (.ptr (.agg [.lit (.string [116, 104, 101, 114, 101, 32, 105, 115, 32, 110, 111, 32, 115, 117, 99, 104, 32, 116, 104, 105, 110, 103])]))
def laid_loop_example_g00313_impl_errNot {H : Type} : DataW H := .iface "*errors.errorString" (.ptr (.agg [.lit (.string [110, 111, 116, 32, 97, 115, 32, 116, 104, 105, 110, 103, 115, 32, 97, 114, 101])]))
def laid_loop_example_g00313_impl_errNotPast {H : Type} : DataW H := .iface "*errors.errorString" (.ptr (.agg [.lit (.string [116, 104, 101, 32, 112, 114, 111, 99, 101, 115, 115, 32, 105, 115, 32, 110, 111, 116, 32, 112, 97, 115, 116, 32, 105, 116, 115, 32, 111, 112])]))

/-- 'laws.FnExactTicked': WHATEVER THE INPUT: true; the input reads as it did. -/
def fnExactTickedSpec : ChangeSpec := { name := "fnExactTicked", vars := ["loop.example/g00313/impl.errNotPast", "loop.example/g00313/impl.errNone", "loop.example/g00313/impl.errNot"], fn := fun _ => fun
  | [d1, d2, g1, g2, g3] => { results := [.lit (.bool true)], args := [d1, d2], vars := [g1, g2, g3] }
  | _ => none }
def fnExactTickedRow : OpenClaim := { program := "ytnlbiglljiopmaagreatdoor", sum := "422df2c744ae3591e3fd1134751921da42db8004d8b7803cc4a46e4fbfbaf010", func := "loop.example/g00313/laws.FnExactTicked", spec := "fnExactTicked", inPlace := ["internal/reflectlite.TypeOf", "internal/reflectlite.ValueOf", "(internal/reflectlite.Value).Type", "(internal/reflectlite.Value).IsNil", "(internal/reflectlite.Value).Elem", "(internal/reflectlite.Value).Set"], unfollowed := true, recurses := true, named := ["loop.example/g00313/impl.errNotPast", "loop.example/g00313/impl.errNone", "loop.example/g00313/impl.errNot", "errors.errorType"], ifaces := true, apart := false, laid := [("errors.errorType", laid_errors_errorType), ("loop.example/g00313/impl.errNone", laid_loop_example_g00313_impl_errNone), ("loop.example/g00313/impl.errNot", laid_loop_example_g00313_impl_errNot), ("loop.example/g00313/impl.errNotPast", laid_loop_example_g00313_impl_errNotPast)] }
def FnExactTickedSaid : Prop := fnExactTickedRow.holds Tryz.pinned (OpenSpec.ofChange fnExactTickedSpec)

/-- ITS FALSE NEIGHBOUR: 'it returns false'. Refute it at one input. -/
def fnExactTickedWrong : ChangeSpec := { name := "fnExactTicked", vars := ["loop.example/g00313/impl.errNotPast", "loop.example/g00313/impl.errNone", "loop.example/g00313/impl.errNot"], fn := fun _ => fun
  | [d1, d2, g1, g2, g3] => { results := [.lit (.bool false)], args := [d1, d2], vars := [g1, g2, g3] }
  | _ => none }
def FnExactTickedWrongFalsely : Prop := fnExactTickedRow.holds Tryz.pinned (OpenSpec.ofChange fnExactTickedWrong)

/-- 'laws.FnExactTickedBy': WHATEVER THE INPUT: true; the input reads as it did. -/
def fnExactTickedBySpec : ChangeSpec := { name := "fnExactTickedBy", vars := ["loop.example/g00313/impl.errNotPast", "loop.example/g00313/impl.errNone", "loop.example/g00313/impl.errNot"], fn := fun _ => fun
  | [d1, d2, d3, g1, g2, g3] => { results := [.lit (.bool true)], args := [d1, d2, d3], vars := [g1, g2, g3] }
  | _ => none }
def fnExactTickedByRow : OpenClaim := { program := "ytnlbiglljiopmaagreatdoor", sum := "422df2c744ae3591e3fd1134751921da42db8004d8b7803cc4a46e4fbfbaf010", func := "loop.example/g00313/laws.FnExactTickedBy", spec := "fnExactTickedBy", inPlace := ["internal/reflectlite.TypeOf", "internal/reflectlite.ValueOf", "(internal/reflectlite.Value).Type", "(internal/reflectlite.Value).IsNil", "(internal/reflectlite.Value).Elem", "(internal/reflectlite.Value).Set"], unfollowed := true, recurses := true, named := ["loop.example/g00313/impl.errNotPast", "loop.example/g00313/impl.errNone", "loop.example/g00313/impl.errNot", "errors.errorType"], ifaces := true, apart := false, laid := [("errors.errorType", laid_errors_errorType), ("loop.example/g00313/impl.errNone", laid_loop_example_g00313_impl_errNone), ("loop.example/g00313/impl.errNot", laid_loop_example_g00313_impl_errNot), ("loop.example/g00313/impl.errNotPast", laid_loop_example_g00313_impl_errNotPast)] }
def FnExactTickedBySaid : Prop := fnExactTickedByRow.holds Tryz.pinned (OpenSpec.ofChange fnExactTickedBySpec)

/-- ITS FALSE NEIGHBOUR: 'it returns false'. Refute it at one input. -/
def fnExactTickedByWrong : ChangeSpec := { name := "fnExactTickedBy", vars := ["loop.example/g00313/impl.errNotPast", "loop.example/g00313/impl.errNone", "loop.example/g00313/impl.errNot"], fn := fun _ => fun
  | [d1, d2, d3, g1, g2, g3] => { results := [.lit (.bool false)], args := [d1, d2, d3], vars := [g1, g2, g3] }
  | _ => none }
def FnExactTickedByWrongFalsely : Prop := fnExactTickedByRow.holds Tryz.pinned (OpenSpec.ofChange fnExactTickedByWrong)

/- THE SECOND FORM. 'bulk': how many values and letters a reading holds, each counted each time it is reached (what is shared counts as often as it is met; a slice's spare places count too). A statement '..UptoSaid' is the law's where the arguments, and the package variables that the reading takes, are together of bulk at most 1048576: NARROWER than '..Said'. Prove '..Said' where nothing that the law and all that it calls make is longer than what came in: it says more and counts as full. Else prove '..UptoSaid'. A law counts once. -/
mutual
def uptoBulk {H : Type} : DataW H → Nat
  | .lit (.string bytes) => bytes.length + 1
  | .lit _ => 1
  | .nil => 1
  | .ptr d => uptoBulk d + 1
  | .slice elems spare => uptoBulkAll elems + uptoBulkAll spare + 1
  | .agg parts => uptoBulkAll parts + 1
  | .iface _ d => uptoBulk d + 1
  | .map entries => uptoBulkEntries entries + 1
  | .held _ => 1
def uptoBulkAll {H : Type} : List (DataW H) → Nat
  | [] => 0
  | d :: r => uptoBulk d + uptoBulkAll r
def uptoBulkEntries {H : Type} : List (Lit × DataW H) → Nat
  | [] => 0
  | x :: r => uptoBulkEntry x + uptoBulkEntries r
def uptoBulkEntry {H : Type} : Lit × DataW H → Nat
  | (.string bytes, d) => bytes.length + uptoBulk d + 1
  | (_, d) => uptoBulk d + 1
 end
def uptoSmall : (H : Type) → List (DataW H) → Bool := fun _ ds => decide (uptoBulkAll ds ≤ 1048576)
def OpenSpec.upto (s : _root_.Go.ChangeSpec) : _root_.Go.OpenSpec := { _root_.Go.OpenSpec.ofChange s with cond := some uptoSmall }

/-- 'laws.FnExactTicked', WHERE WHAT IT READS IS OF BULK AT MOST 1048576: true; the input reads as it did. -/
def fnExactTickedUptoRow : OpenClaim := { program := "ytnlbiglljiopmaagreatdoor", sum := "422df2c744ae3591e3fd1134751921da42db8004d8b7803cc4a46e4fbfbaf010", func := "loop.example/g00313/laws.FnExactTicked", spec := "fnExactTicked", inPlace := ["internal/reflectlite.TypeOf", "internal/reflectlite.ValueOf", "(internal/reflectlite.Value).Type", "(internal/reflectlite.Value).IsNil", "(internal/reflectlite.Value).Elem", "(internal/reflectlite.Value).Set"], unfollowed := true, recurses := true, named := ["loop.example/g00313/impl.errNotPast", "loop.example/g00313/impl.errNone", "loop.example/g00313/impl.errNot", "errors.errorType"], ifaces := true, apart := false, laid := [("errors.errorType", laid_errors_errorType), ("loop.example/g00313/impl.errNone", laid_loop_example_g00313_impl_errNone), ("loop.example/g00313/impl.errNot", laid_loop_example_g00313_impl_errNot), ("loop.example/g00313/impl.errNotPast", laid_loop_example_g00313_impl_errNotPast)], narrowed := true }
def FnExactTickedUptoSaid : Prop := fnExactTickedUptoRow.holds Tryz.pinned (OpenSpec.upto fnExactTickedSpec)

/-- 'laws.FnExactTickedBy', WHERE WHAT IT READS IS OF BULK AT MOST 1048576: true; the input reads as it did. -/
def fnExactTickedByUptoRow : OpenClaim := { program := "ytnlbiglljiopmaagreatdoor", sum := "422df2c744ae3591e3fd1134751921da42db8004d8b7803cc4a46e4fbfbaf010", func := "loop.example/g00313/laws.FnExactTickedBy", spec := "fnExactTickedBy", inPlace := ["internal/reflectlite.TypeOf", "internal/reflectlite.ValueOf", "(internal/reflectlite.Value).Type", "(internal/reflectlite.Value).IsNil", "(internal/reflectlite.Value).Elem", "(internal/reflectlite.Value).Set"], unfollowed := true, recurses := true, named := ["loop.example/g00313/impl.errNotPast", "loop.example/g00313/impl.errNone", "loop.example/g00313/impl.errNot", "errors.errorType"], ifaces := true, apart := false, laid := [("errors.errorType", laid_errors_errorType), ("loop.example/g00313/impl.errNone", laid_loop_example_g00313_impl_errNone), ("loop.example/g00313/impl.errNot", laid_loop_example_g00313_impl_errNot), ("loop.example/g00313/impl.errNotPast", laid_loop_example_g00313_impl_errNotPast)], narrowed := true }
def FnExactTickedByUptoSaid : Prop := fnExactTickedByUptoRow.holds Tryz.pinned (OpenSpec.upto fnExactTickedBySpec)

end Rows
end Go.Proofs.YtnlbiglljiopmaaGreatDoor

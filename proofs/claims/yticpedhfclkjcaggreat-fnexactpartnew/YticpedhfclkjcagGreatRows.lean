/-
  No cell of these rows narrows 'for every input' (looked for: loops, veiled, ifaces, maps, wideKeys, modest, calm, conditions, laid).
  DERIVED. THE GIVEN ROWS OF THIS SEAT. 3 by the template 'for every input the law returns true; each argument reads behind the call as it read before'; 0 by the template 'total and deterministic' (their statements: YticpedhfclkjcagGreatTotals.lean).
  GIVEN WITH THE SEED: the statements are not yours to turn. If you find one false, say at which input.
  Laid BY PROGRAM, IN A SANDBOX (cutbox-rows.mjs): the forced cells as the released guide's own fill.sh prints them over the translation 63dab62aaacd50bf… (all of the seat's roots in one cut). By AI agents, Wed Nov 11 2026. No macro, syntax, notation, axiom, sorry.
-/
import Derived.Test.YticpedhfclkjcagGreatChecked
import GoSem.Claim
import GoSem.ClaimJoined
import GoSem.ClaimMapViews
import Derived.JoinedTies
import Derived.KernelRfl
namespace Go.Proofs.YticpedhfclkjcagGreat
/- THE CELL 'sum', in the pinned program and in every row, IS THE sha256 OF THE DUMP (.gsa) THAT YticpedhfclkjcagGreatProg.lean LOADS. Nothing in Lean hashes anything: it is a label: what it is worth is what the hold of that sum in a sandbox is worth. -/
noncomputable def Tryz.pinned : Pinned := { name := "yticpedhfclkjcaggreat", sum := "63dab62aaacd50bf58dd0f0218edcabe1a6bcb85bbbc106525133b72f4468af0", checked := Tryz.checked }
namespace Rows
def none {H : Type} : Left H := { results := [], args := [] }

/-- 'laws.FnExactPartOk': WHATEVER THE INPUT: true; the input reads as it did. -/
def fnExactPartOkSpec : ChangeSpec := { name := "fnExactPartOk", fn := fun _ => fun
  | [d] => { results := [.lit (.bool true)], args := [d] }
  | _ => none }
def fnExactPartOkRow : OpenClaim := { program := "yticpedhfclkjcaggreat", sum := "63dab62aaacd50bf58dd0f0218edcabe1a6bcb85bbbc106525133b72f4468af0", func := "loop.example/g00313/laws.FnExactPartOk", spec := "fnExactPartOk", unfollowed := true, recurses := true, apart := false }
def FnExactPartOkSaid : Prop := fnExactPartOkRow.holds Tryz.pinned (OpenSpec.ofChange fnExactPartOkSpec)

/-- ITS FALSE NEIGHBOUR: 'it returns false'. Refute it at one input. -/
def fnExactPartOkWrong : ChangeSpec := { name := "fnExactPartOk", fn := fun _ => fun
  | [d] => { results := [.lit (.bool false)], args := [d] }
  | _ => none }
def FnExactPartOkWrongFalsely : Prop := fnExactPartOkRow.holds Tryz.pinned (OpenSpec.ofChange fnExactPartOkWrong)

/-- 'laws.FnExactPartNew': WHATEVER THE INPUT: true; the input reads as it did. -/
def fnExactPartNewSpec : ChangeSpec := { name := "fnExactPartNew", fn := fun _ => fun
  | [d] => { results := [.lit (.bool true)], args := [d] }
  | _ => none }
def fnExactPartNewRow : OpenClaim := { program := "yticpedhfclkjcaggreat", sum := "63dab62aaacd50bf58dd0f0218edcabe1a6bcb85bbbc106525133b72f4468af0", func := "loop.example/g00313/laws.FnExactPartNew", spec := "fnExactPartNew", unfollowed := true, recurses := true, apart := false }
def FnExactPartNewSaid : Prop := fnExactPartNewRow.holds Tryz.pinned (OpenSpec.ofChange fnExactPartNewSpec)

/-- ITS FALSE NEIGHBOUR: 'it returns false'. Refute it at one input. -/
def fnExactPartNewWrong : ChangeSpec := { name := "fnExactPartNew", fn := fun _ => fun
  | [d] => { results := [.lit (.bool false)], args := [d] }
  | _ => none }
def FnExactPartNewWrongFalsely : Prop := fnExactPartNewRow.holds Tryz.pinned (OpenSpec.ofChange fnExactPartNewWrong)

/-- 'laws.FnExactWithProc': WHATEVER THE INPUT: true; the input reads as it did. -/
def fnExactWithProcSpec : ChangeSpec := { name := "fnExactWithProc", fn := fun _ => fun
  | [d1, d2, d3, d4] => { results := [.lit (.bool true)], args := [d1, d2, d3, d4] }
  | _ => none }
def fnExactWithProcRow : OpenClaim := { program := "yticpedhfclkjcaggreat", sum := "63dab62aaacd50bf58dd0f0218edcabe1a6bcb85bbbc106525133b72f4468af0", func := "loop.example/g00313/laws.FnExactWithProc", spec := "fnExactWithProc", unfollowed := true, recurses := true, apart := false }
def FnExactWithProcSaid : Prop := fnExactWithProcRow.holds Tryz.pinned (OpenSpec.ofChange fnExactWithProcSpec)

/-- ITS FALSE NEIGHBOUR: 'it returns false'. Refute it at one input. -/
def fnExactWithProcWrong : ChangeSpec := { name := "fnExactWithProc", fn := fun _ => fun
  | [d1, d2, d3, d4] => { results := [.lit (.bool false)], args := [d1, d2, d3, d4] }
  | _ => none }
def FnExactWithProcWrongFalsely : Prop := fnExactWithProcRow.holds Tryz.pinned (OpenSpec.ofChange fnExactWithProcWrong)

/- THE SECOND FORM. 'bulk': how many values and letters a reading holds, each counted each time it is reached (what is shared counts as often as it is met; a slice's spare places count too). A statement '..UptoSaid' is the law's where the arguments, and the package variables that the reading takes, are together of bulk at most 1048576: NARROWER than '..Said'. Prove '..Said' where nothing that the law and all that it calls make is longer than what came in: it says more and counts as full. Else prove '..UptoSaid'. A law counts once. -/
mutual
def uptoBulk {H : Type} : DataW H → Nat
  | .lit (.string bytes) => bytes.length + 1
  | .lit _ => 1
  | .nil => 1
  | .ptr d => uptoBulk d + 1
  | .slice elems spare => uptoBulkAll elems + uptoBulkAll spare + 1
  | .agg parts => uptoBulkAll parts + 1
  | .iface _ d => uptoBulk d + 1
  | .map entries => uptoBulkEntries entries + 1
  | .held _ => 1
def uptoBulkAll {H : Type} : List (DataW H) → Nat
  | [] => 0
  | d :: r => uptoBulk d + uptoBulkAll r
def uptoBulkEntries {H : Type} : List (Lit × DataW H) → Nat
  | [] => 0
  | x :: r => uptoBulkEntry x + uptoBulkEntries r
def uptoBulkEntry {H : Type} : Lit × DataW H → Nat
  | (.string bytes, d) => bytes.length + uptoBulk d + 1
  | (_, d) => uptoBulk d + 1
 end
def uptoSmall : (H : Type) → List (DataW H) → Bool := fun _ ds => decide (uptoBulkAll ds ≤ 1048576)
def OpenSpec.upto (s : _root_.Go.ChangeSpec) : _root_.Go.OpenSpec := { _root_.Go.OpenSpec.ofChange s with cond := some uptoSmall }

/-- 'laws.FnExactPartOk', WHERE WHAT IT READS IS OF BULK AT MOST 1048576: true; the input reads as it did. -/
def fnExactPartOkUptoRow : OpenClaim := { program := "yticpedhfclkjcaggreat", sum := "63dab62aaacd50bf58dd0f0218edcabe1a6bcb85bbbc106525133b72f4468af0", func := "loop.example/g00313/laws.FnExactPartOk", spec := "fnExactPartOk", unfollowed := true, recurses := true, apart := false, narrowed := true }
def FnExactPartOkUptoSaid : Prop := fnExactPartOkUptoRow.holds Tryz.pinned (OpenSpec.upto fnExactPartOkSpec)

/-- 'laws.FnExactPartNew', WHERE WHAT IT READS IS OF BULK AT MOST 1048576: true; the input reads as it did. -/
def fnExactPartNewUptoRow : OpenClaim := { program := "yticpedhfclkjcaggreat", sum := "63dab62aaacd50bf58dd0f0218edcabe1a6bcb85bbbc106525133b72f4468af0", func := "loop.example/g00313/laws.FnExactPartNew", spec := "fnExactPartNew", unfollowed := true, recurses := true, apart := false, narrowed := true }
def FnExactPartNewUptoSaid : Prop := fnExactPartNewUptoRow.holds Tryz.pinned (OpenSpec.upto fnExactPartNewSpec)

/-- 'laws.FnExactWithProc', WHERE WHAT IT READS IS OF BULK AT MOST 1048576: true; the input reads as it did. -/
def fnExactWithProcUptoRow : OpenClaim := { program := "yticpedhfclkjcaggreat", sum := "63dab62aaacd50bf58dd0f0218edcabe1a6bcb85bbbc106525133b72f4468af0", func := "loop.example/g00313/laws.FnExactWithProc", spec := "fnExactWithProc", unfollowed := true, recurses := true, apart := false, narrowed := true }
def FnExactWithProcUptoSaid : Prop := fnExactWithProcUptoRow.holds Tryz.pinned (OpenSpec.upto fnExactWithProcSpec)

end Rows
end Go.Proofs.YticpedhfclkjcagGreat

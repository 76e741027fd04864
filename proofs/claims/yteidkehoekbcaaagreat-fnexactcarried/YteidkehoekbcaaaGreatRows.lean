/-
  No cell of these rows narrows 'for every input' (looked for: loops, veiled, ifaces, maps, wideKeys, modest, calm, conditions, laid).
  DERIVED. THE GIVEN ROWS OF THIS SEAT. 5 by the template 'for every input the law returns true; each argument reads behind the call as it read before'; 0 by the template 'total and deterministic' (their statements: YteidkehoekbcaaaGreatTotals.lean).
  GIVEN WITH THE SEED: the statements are not yours to turn. If you find one false, say at which input.
  Laid BY PROGRAM, IN A SANDBOX (cutbox-rows.mjs): the forced cells as the released guide's own fill.sh prints them over the translation 639bce26f4843ef6… (all of the seat's roots in one cut). By AI agents, Wed Nov 11 2026. No macro, syntax, notation, axiom, sorry.
-/
import Derived.Test.YteidkehoekbcaaaGreatChecked
import GoSem.Claim
import GoSem.ClaimJoined
import GoSem.ClaimMapViews
import Derived.JoinedTies
import Derived.KernelRfl
namespace Go.Proofs.YteidkehoekbcaaaGreat
/- THE CELL 'sum', in the pinned program and in every row, IS THE sha256 OF THE DUMP (.gsa) THAT YteidkehoekbcaaaGreatProg.lean LOADS. Nothing in Lean hashes anything: it is a label: what it is worth is what the hold of that sum in a sandbox is worth. -/
noncomputable def Tryz.pinned : Pinned := { name := "yteidkehoekbcaaagreat", sum := "639bce26f4843ef689b264bc86b081c9fd60f9934b7dce2d1c7a657731c17fc7", checked := Tryz.checked }
namespace Rows
def none {H : Type} : Left H := { results := [], args := [] }

/-- 'laws.FnExactKernelOk': WHATEVER THE INPUT: true; the input reads as it did. -/
def fnExactKernelOkSpec : ChangeSpec := { name := "fnExactKernelOk", fn := fun _ => fun
  | [d] => { results := [.lit (.bool true)], args := [d] }
  | _ => none }
def fnExactKernelOkRow : OpenClaim := { program := "yteidkehoekbcaaagreat", sum := "639bce26f4843ef689b264bc86b081c9fd60f9934b7dce2d1c7a657731c17fc7", func := "loop.example/g00313/laws.FnExactKernelOk", spec := "fnExactKernelOk", unfollowed := true, recurses := true, apart := false }
def FnExactKernelOkSaid : Prop := fnExactKernelOkRow.holds Tryz.pinned (OpenSpec.ofChange fnExactKernelOkSpec)

/-- ITS FALSE NEIGHBOUR: 'it returns false'. Refute it at one input. -/
def fnExactKernelOkWrong : ChangeSpec := { name := "fnExactKernelOk", fn := fun _ => fun
  | [d] => { results := [.lit (.bool false)], args := [d] }
  | _ => none }
def FnExactKernelOkWrongFalsely : Prop := fnExactKernelOkRow.holds Tryz.pinned (OpenSpec.ofChange fnExactKernelOkWrong)

/-- 'laws.FnExactPartOf': WHATEVER THE INPUT: true; the input reads as it did. -/
def fnExactPartOfSpec : ChangeSpec := { name := "fnExactPartOf", fn := fun _ => fun
  | [d1, d2] => { results := [.lit (.bool true)], args := [d1, d2] }
  | _ => none }
def fnExactPartOfRow : OpenClaim := { program := "yteidkehoekbcaaagreat", sum := "639bce26f4843ef689b264bc86b081c9fd60f9934b7dce2d1c7a657731c17fc7", func := "loop.example/g00313/laws.FnExactPartOf", spec := "fnExactPartOf", unfollowed := true, recurses := true, apart := false }
def FnExactPartOfSaid : Prop := fnExactPartOfRow.holds Tryz.pinned (OpenSpec.ofChange fnExactPartOfSpec)

/-- ITS FALSE NEIGHBOUR: 'it returns false'. Refute it at one input. -/
def fnExactPartOfWrong : ChangeSpec := { name := "fnExactPartOf", fn := fun _ => fun
  | [d1, d2] => { results := [.lit (.bool false)], args := [d1, d2] }
  | _ => none }
def FnExactPartOfWrongFalsely : Prop := fnExactPartOfRow.holds Tryz.pinned (OpenSpec.ofChange fnExactPartOfWrong)

/-- 'laws.FnExactCarried': WHATEVER THE INPUT: true; the input reads as it did. -/
def fnExactCarriedSpec : ChangeSpec := { name := "fnExactCarried", fn := fun _ => fun
  | [d1, d2] => { results := [.lit (.bool true)], args := [d1, d2] }
  | _ => none }
def fnExactCarriedRow : OpenClaim := { program := "yteidkehoekbcaaagreat", sum := "639bce26f4843ef689b264bc86b081c9fd60f9934b7dce2d1c7a657731c17fc7", func := "loop.example/g00313/laws.FnExactCarried", spec := "fnExactCarried", unfollowed := true, recurses := true, apart := false }
def FnExactCarriedSaid : Prop := fnExactCarriedRow.holds Tryz.pinned (OpenSpec.ofChange fnExactCarriedSpec)

/-- ITS FALSE NEIGHBOUR: 'it returns false'. Refute it at one input. -/
def fnExactCarriedWrong : ChangeSpec := { name := "fnExactCarried", fn := fun _ => fun
  | [d1, d2] => { results := [.lit (.bool false)], args := [d1, d2] }
  | _ => none }
def FnExactCarriedWrongFalsely : Prop := fnExactCarriedRow.holds Tryz.pinned (OpenSpec.ofChange fnExactCarriedWrong)

/-- 'laws.FnExactFeedsInto': WHATEVER THE INPUT: true; the input reads as it did. -/
def fnExactFeedsIntoSpec : ChangeSpec := { name := "fnExactFeedsInto", fn := fun _ => fun
  | [d1, d2] => { results := [.lit (.bool true)], args := [d1, d2] }
  | _ => none }
def fnExactFeedsIntoRow : OpenClaim := { program := "yteidkehoekbcaaagreat", sum := "639bce26f4843ef689b264bc86b081c9fd60f9934b7dce2d1c7a657731c17fc7", func := "loop.example/g00313/laws.FnExactFeedsInto", spec := "fnExactFeedsInto", unfollowed := true, recurses := true, apart := false }
def FnExactFeedsIntoSaid : Prop := fnExactFeedsIntoRow.holds Tryz.pinned (OpenSpec.ofChange fnExactFeedsIntoSpec)

/-- ITS FALSE NEIGHBOUR: 'it returns false'. Refute it at one input. -/
def fnExactFeedsIntoWrong : ChangeSpec := { name := "fnExactFeedsInto", fn := fun _ => fun
  | [d1, d2] => { results := [.lit (.bool false)], args := [d1, d2] }
  | _ => none }
def FnExactFeedsIntoWrongFalsely : Prop := fnExactFeedsIntoRow.holds Tryz.pinned (OpenSpec.ofChange fnExactFeedsIntoWrong)

/-- 'laws.FnExactSwapped': WHATEVER THE INPUT: true; the input reads as it did. -/
def fnExactSwappedSpec : ChangeSpec := { name := "fnExactSwapped", fn := fun _ => fun
  | [d1, d2] => { results := [.lit (.bool true)], args := [d1, d2] }
  | _ => none }
def fnExactSwappedRow : OpenClaim := { program := "yteidkehoekbcaaagreat", sum := "639bce26f4843ef689b264bc86b081c9fd60f9934b7dce2d1c7a657731c17fc7", func := "loop.example/g00313/laws.FnExactSwapped", spec := "fnExactSwapped", unfollowed := true, recurses := true, apart := false }
def FnExactSwappedSaid : Prop := fnExactSwappedRow.holds Tryz.pinned (OpenSpec.ofChange fnExactSwappedSpec)

/-- ITS FALSE NEIGHBOUR: 'it returns false'. Refute it at one input. -/
def fnExactSwappedWrong : ChangeSpec := { name := "fnExactSwapped", fn := fun _ => fun
  | [d1, d2] => { results := [.lit (.bool false)], args := [d1, d2] }
  | _ => none }
def FnExactSwappedWrongFalsely : Prop := fnExactSwappedRow.holds Tryz.pinned (OpenSpec.ofChange fnExactSwappedWrong)

/- THE SECOND FORM. 'bulk': how many values and letters a reading holds, each counted each time it is reached (what is shared counts as often as it is met; a slice's spare places count too). A statement '..UptoSaid' is the law's where the arguments, and the package variables that the reading takes, are together of bulk at most 1048576: NARROWER than '..Said'. Prove '..Said' where nothing that the law and all that it calls make is longer than what came in: it says more and counts as full. Else prove '..UptoSaid'. A law counts once. -/
mutual
def uptoBulk {H : Type} : DataW H → Nat
  | .lit (.string bytes) => bytes.length + 1
  | .lit _ => 1
  | .nil => 1
  | .ptr d => uptoBulk d + 1
  | .slice elems spare => uptoBulkAll elems + uptoBulkAll spare + 1
  | .agg parts => uptoBulkAll parts + 1
  | .iface _ d => uptoBulk d + 1
  | .map entries => uptoBulkEntries entries + 1
  | .held _ => 1
def uptoBulkAll {H : Type} : List (DataW H) → Nat
  | [] => 0
  | d :: r => uptoBulk d + uptoBulkAll r
def uptoBulkEntries {H : Type} : List (Lit × DataW H) → Nat
  | [] => 0
  | x :: r => uptoBulkEntry x + uptoBulkEntries r
def uptoBulkEntry {H : Type} : Lit × DataW H → Nat
  | (.string bytes, d) => bytes.length + uptoBulk d + 1
  | (_, d) => uptoBulk d + 1
 end
def uptoSmall : (H : Type) → List (DataW H) → Bool := fun _ ds => decide (uptoBulkAll ds ≤ 1048576)
def OpenSpec.upto (s : _root_.Go.ChangeSpec) : _root_.Go.OpenSpec := { _root_.Go.OpenSpec.ofChange s with cond := some uptoSmall }

/-- 'laws.FnExactKernelOk', WHERE WHAT IT READS IS OF BULK AT MOST 1048576: true; the input reads as it did. -/
def fnExactKernelOkUptoRow : OpenClaim := { program := "yteidkehoekbcaaagreat", sum := "639bce26f4843ef689b264bc86b081c9fd60f9934b7dce2d1c7a657731c17fc7", func := "loop.example/g00313/laws.FnExactKernelOk", spec := "fnExactKernelOk", unfollowed := true, recurses := true, apart := false, narrowed := true }
def FnExactKernelOkUptoSaid : Prop := fnExactKernelOkUptoRow.holds Tryz.pinned (OpenSpec.upto fnExactKernelOkSpec)

/-- 'laws.FnExactPartOf', WHERE WHAT IT READS IS OF BULK AT MOST 1048576: true; the input reads as it did. -/
def fnExactPartOfUptoRow : OpenClaim := { program := "yteidkehoekbcaaagreat", sum := "639bce26f4843ef689b264bc86b081c9fd60f9934b7dce2d1c7a657731c17fc7", func := "loop.example/g00313/laws.FnExactPartOf", spec := "fnExactPartOf", unfollowed := true, recurses := true, apart := false, narrowed := true }
def FnExactPartOfUptoSaid : Prop := fnExactPartOfUptoRow.holds Tryz.pinned (OpenSpec.upto fnExactPartOfSpec)

/-- 'laws.FnExactCarried', WHERE WHAT IT READS IS OF BULK AT MOST 1048576: true; the input reads as it did. -/
def fnExactCarriedUptoRow : OpenClaim := { program := "yteidkehoekbcaaagreat", sum := "639bce26f4843ef689b264bc86b081c9fd60f9934b7dce2d1c7a657731c17fc7", func := "loop.example/g00313/laws.FnExactCarried", spec := "fnExactCarried", unfollowed := true, recurses := true, apart := false, narrowed := true }
def FnExactCarriedUptoSaid : Prop := fnExactCarriedUptoRow.holds Tryz.pinned (OpenSpec.upto fnExactCarriedSpec)

/-- 'laws.FnExactFeedsInto', WHERE WHAT IT READS IS OF BULK AT MOST 1048576: true; the input reads as it did. -/
def fnExactFeedsIntoUptoRow : OpenClaim := { program := "yteidkehoekbcaaagreat", sum := "639bce26f4843ef689b264bc86b081c9fd60f9934b7dce2d1c7a657731c17fc7", func := "loop.example/g00313/laws.FnExactFeedsInto", spec := "fnExactFeedsInto", unfollowed := true, recurses := true, apart := false, narrowed := true }
def FnExactFeedsIntoUptoSaid : Prop := fnExactFeedsIntoUptoRow.holds Tryz.pinned (OpenSpec.upto fnExactFeedsIntoSpec)

/-- 'laws.FnExactSwapped', WHERE WHAT IT READS IS OF BULK AT MOST 1048576: true; the input reads as it did. -/
def fnExactSwappedUptoRow : OpenClaim := { program := "yteidkehoekbcaaagreat", sum := "639bce26f4843ef689b264bc86b081c9fd60f9934b7dce2d1c7a657731c17fc7", func := "loop.example/g00313/laws.FnExactSwapped", spec := "fnExactSwapped", unfollowed := true, recurses := true, apart := false, narrowed := true }
def FnExactSwappedUptoSaid : Prop := fnExactSwappedUptoRow.holds Tryz.pinned (OpenSpec.upto fnExactSwappedSpec)

end Rows
end Go.Proofs.YteidkehoekbcaaaGreat

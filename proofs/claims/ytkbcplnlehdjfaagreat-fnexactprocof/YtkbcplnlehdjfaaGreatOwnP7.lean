/- What the proof leans on, part 7: ProcOfClosed. -/
import Derived.Test.YtkbcplnlehdjfaaGreatRows
import Derived.ProofKit
import Derived.JoinedOf
import Derived.Test.YtkbcplnlehdjfaaGreatOwnP0
import Derived.Test.YtkbcplnlehdjfaaGreatOwnP1
import Derived.Test.YtkbcplnlehdjfaaGreatOwnP2
import Derived.Test.YtkbcplnlehdjfaaGreatOwnP3
import Derived.Test.YtkbcplnlehdjfaaGreatOwnP4
import Derived.Test.YtkbcplnlehdjfaaGreatOwnP5
import Derived.Test.YtkbcplnlehdjfaaGreatOwnP6

namespace Go.Proofs.YtkbcplnlehdjfaaGreat
open Go.ChangeShapes Go.WideShapes Go.ChangeAt Go.RowKit

theorem closedNameProcOf : Tryz.prog.funcNamed Rows.fnExactProcOfRow.func = some 15 := by kernel_rfl
set_option maxRecDepth 100000 in
set_option maxHeartbeats 4000000 in
theorem closedAllProcOf : joinedFacts Tryz.prog 15 Tryz.f15 Rows.fnExactProcOfSpec Rows.fnExactProcOfRow = true := by
 simp only [joinedFacts, Bool.and_eq_true]
 and_intros
 all_goals (as_aux_lemma => kernel_rfl)
theorem closedInstProcOf : (Tryz.f15).isInstance Tryz.prog Rows.fnExactProcOfRow.origin Rows.fnExactProcOfRow.targs := of_decide_eq_true (by kernel_rfl)
theorem closedWrapProcOf : (Tryz.f15).isWrapper Tryz.prog Rows.fnExactProcOfRow.wrapper Rows.fnExactProcOfRow.mainSum := by unfold Func.isWrapper; first | (rw [if_pos (by decide +kernel)]; kernel_rfl) | (rw [if_neg (by decide +kernel)]; exact ⟨rfl, rfl⟩)

end Go.Proofs.YtkbcplnlehdjfaaGreat

/- What the proof leans on, part 2: StoppedClosed. -/
import Derived.Test.YtkbcplnlehdjfaaGreatRows
import Derived.ProofKit
import Derived.JoinedOf

namespace Go.Proofs.YtkbcplnlehdjfaaGreat
open Go.ChangeShapes Go.WideShapes Go.ChangeAt Go.RowKit
theorem closedNameStopped : Tryz.prog.funcNamed Rows.fnExactStoppedRow.func = some 18 := by kernel_rfl
set_option maxRecDepth 100000 in
set_option maxHeartbeats 4000000 in
theorem closedAllStopped : joinedFacts Tryz.prog 18 Tryz.f18 Rows.fnExactStoppedSpec Rows.fnExactStoppedRow = true := by
 simp only [joinedFacts, Bool.and_eq_true]
 and_intros
 all_goals (as_aux_lemma => kernel_rfl)
theorem closedInstStopped : (Tryz.f18).isInstance Tryz.prog Rows.fnExactStoppedRow.origin Rows.fnExactStoppedRow.targs := of_decide_eq_true (by kernel_rfl)
theorem closedWrapStopped : (Tryz.f18).isWrapper Tryz.prog Rows.fnExactStoppedRow.wrapper Rows.fnExactStoppedRow.mainSum := by unfold Func.isWrapper; first | (rw [if_pos (by decide +kernel)]; kernel_rfl) | (rw [if_neg (by decide +kernel)]; exact ⟨rfl, rfl⟩)
end Go.Proofs.YtkbcplnlehdjfaaGreat

/- What the proof leans on, part 4: WithSemClosed. -/
import Derived.Test.YtkbcplnlehdjfaaGreatRows
import Derived.ProofKit
import Derived.JoinedOf

namespace Go.Proofs.YtkbcplnlehdjfaaGreat
open Go.ChangeShapes Go.WideShapes Go.ChangeAt Go.RowKit
theorem closedNameWithSem : Tryz.prog.funcNamed Rows.fnExactWithSemRow.func = some 10 := by kernel_rfl
set_option maxRecDepth 100000 in
set_option maxHeartbeats 4000000 in
theorem closedAllWithSem : joinedFacts Tryz.prog 10 Tryz.f10 Rows.fnExactWithSemSpec Rows.fnExactWithSemRow = true := by
 simp only [joinedFacts, Bool.and_eq_true]
 and_intros
 all_goals (as_aux_lemma => kernel_rfl)
theorem closedInstWithSem : (Tryz.f10).isInstance Tryz.prog Rows.fnExactWithSemRow.origin Rows.fnExactWithSemRow.targs := of_decide_eq_true (by kernel_rfl)
theorem closedWrapWithSem : (Tryz.f10).isWrapper Tryz.prog Rows.fnExactWithSemRow.wrapper Rows.fnExactWithSemRow.mainSum := by unfold Func.isWrapper; first | (rw [if_pos (by decide +kernel)]; kernel_rfl) | (rw [if_neg (by decide +kernel)]; exact ⟨rfl, rfl⟩)
end Go.Proofs.YtkbcplnlehdjfaaGreat

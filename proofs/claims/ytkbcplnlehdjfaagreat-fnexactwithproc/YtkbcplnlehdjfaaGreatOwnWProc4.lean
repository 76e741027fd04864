/- What the proof leans on, part 4: WithProcClosed. -/
import Derived.Test.YtkbcplnlehdjfaaGreatRows
import Derived.ProofKit
import Derived.JoinedOf

namespace Go.Proofs.YtkbcplnlehdjfaaGreat
open Go.ChangeShapes Go.WideShapes Go.ChangeAt Go.RowKit
theorem closedNameWithProc : Tryz.prog.funcNamed Rows.fnExactWithProcRow.func = some 9 := by kernel_rfl
set_option maxRecDepth 100000 in
set_option maxHeartbeats 4000000 in
theorem closedAllWithProc : joinedFacts Tryz.prog 9 Tryz.f9 Rows.fnExactWithProcSpec Rows.fnExactWithProcRow = true := by
 simp only [joinedFacts, Bool.and_eq_true]
 and_intros
 all_goals (as_aux_lemma => kernel_rfl)
theorem closedInstWithProc : (Tryz.f9).isInstance Tryz.prog Rows.fnExactWithProcRow.origin Rows.fnExactWithProcRow.targs := of_decide_eq_true (by kernel_rfl)
theorem closedWrapWithProc : (Tryz.f9).isWrapper Tryz.prog Rows.fnExactWithProcRow.wrapper Rows.fnExactWithProcRow.mainSum := by unfold Func.isWrapper; first | (rw [if_pos (by decide +kernel)]; kernel_rfl) | (rw [if_neg (by decide +kernel)]; exact ⟨rfl, rfl⟩)
end Go.Proofs.YtkbcplnlehdjfaaGreat

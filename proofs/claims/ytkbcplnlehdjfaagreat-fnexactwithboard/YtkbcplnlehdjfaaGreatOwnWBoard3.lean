/- What the proof leans on, part 3: WithBoardClosed. -/
import Derived.Test.YtkbcplnlehdjfaaGreatRows
import Derived.ProofKit
import Derived.JoinedOf

namespace Go.Proofs.YtkbcplnlehdjfaaGreat
open Go.ChangeShapes Go.WideShapes Go.ChangeAt Go.RowKit
theorem closedNameWithBoard : Tryz.prog.funcNamed Rows.fnExactWithBoardRow.func = some 12 := by kernel_rfl
set_option maxRecDepth 100000 in
set_option maxHeartbeats 4000000 in
theorem closedAllWithBoard : joinedFacts Tryz.prog 12 Tryz.f12 Rows.fnExactWithBoardSpec Rows.fnExactWithBoardRow = true := by
 simp only [joinedFacts, Bool.and_eq_true]
 and_intros
 all_goals (as_aux_lemma => kernel_rfl)
theorem closedInstWithBoard : (Tryz.f12).isInstance Tryz.prog Rows.fnExactWithBoardRow.origin Rows.fnExactWithBoardRow.targs := of_decide_eq_true (by kernel_rfl)
theorem closedWrapWithBoard : (Tryz.f12).isWrapper Tryz.prog Rows.fnExactWithBoardRow.wrapper Rows.fnExactWithBoardRow.mainSum := by unfold Func.isWrapper; first | (rw [if_pos (by decide +kernel)]; kernel_rfl) | (rw [if_neg (by decide +kernel)]; exact ⟨rfl, rfl⟩)
end Go.Proofs.YtkbcplnlehdjfaaGreat

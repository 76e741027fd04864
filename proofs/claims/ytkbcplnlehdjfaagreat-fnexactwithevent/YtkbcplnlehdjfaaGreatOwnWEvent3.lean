/- What the proof leans on, part 3: WithEventClosed. -/
import Derived.Test.YtkbcplnlehdjfaaGreatRows
import Derived.ProofKit
import Derived.JoinedOf

namespace Go.Proofs.YtkbcplnlehdjfaaGreat
open Go.ChangeShapes Go.WideShapes Go.ChangeAt Go.RowKit
theorem closedNameWithEvent : Tryz.prog.funcNamed Rows.fnExactWithEventRow.func = some 11 := by kernel_rfl
set_option maxRecDepth 100000 in
set_option maxHeartbeats 4000000 in
theorem closedAllWithEvent : joinedFacts Tryz.prog 11 Tryz.f11 Rows.fnExactWithEventSpec Rows.fnExactWithEventRow = true := by
 simp only [joinedFacts, Bool.and_eq_true]
 and_intros
 all_goals (as_aux_lemma => kernel_rfl)
theorem closedInstWithEvent : (Tryz.f11).isInstance Tryz.prog Rows.fnExactWithEventRow.origin Rows.fnExactWithEventRow.targs := of_decide_eq_true (by kernel_rfl)
theorem closedWrapWithEvent : (Tryz.f11).isWrapper Tryz.prog Rows.fnExactWithEventRow.wrapper Rows.fnExactWithEventRow.mainSum := by unfold Func.isWrapper; first | (rw [if_pos (by decide +kernel)]; kernel_rfl) | (rw [if_neg (by decide +kernel)]; exact ⟨rfl, rfl⟩)
end Go.Proofs.YtkbcplnlehdjfaaGreat

/- What the proof leans on, part 2: StartedClosed. -/
import Derived.Test.YtkbcplnlehdjfaaGreatRows
import Derived.ProofKit
import Derived.JoinedOf

namespace Go.Proofs.YtkbcplnlehdjfaaGreat
open Go.ChangeShapes Go.WideShapes Go.ChangeAt Go.RowKit
theorem closedNameStarted : Tryz.prog.funcNamed Rows.fnExactStartedRow.func = some 17 := by kernel_rfl
set_option maxRecDepth 100000 in
set_option maxHeartbeats 4000000 in
theorem closedAllStarted : joinedFacts Tryz.prog 17 Tryz.f17 Rows.fnExactStartedSpec Rows.fnExactStartedRow = true := by
 simp only [joinedFacts, Bool.and_eq_true]
 and_intros
 all_goals (as_aux_lemma => kernel_rfl)
theorem closedInstStarted : (Tryz.f17).isInstance Tryz.prog Rows.fnExactStartedRow.origin Rows.fnExactStartedRow.targs := of_decide_eq_true (by kernel_rfl)
theorem closedWrapStarted : (Tryz.f17).isWrapper Tryz.prog Rows.fnExactStartedRow.wrapper Rows.fnExactStartedRow.mainSum := by unfold Func.isWrapper; first | (rw [if_pos (by decide +kernel)]; kernel_rfl) | (rw [if_neg (by decide +kernel)]; exact ⟨rfl, rfl⟩)
end Go.Proofs.YtkbcplnlehdjfaaGreat

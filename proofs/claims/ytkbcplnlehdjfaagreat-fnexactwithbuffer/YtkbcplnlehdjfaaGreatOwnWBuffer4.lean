/- What the proof leans on, part 4: WithBufferClosed. -/
import Derived.Test.YtkbcplnlehdjfaaGreatRows
import Derived.ProofKit
import Derived.JoinedOf

namespace Go.Proofs.YtkbcplnlehdjfaaGreat
open Go.ChangeShapes Go.WideShapes Go.ChangeAt Go.RowKit
theorem closedNameWithBuffer : Tryz.prog.funcNamed Rows.fnExactWithBufferRow.func = some 13 := by kernel_rfl
set_option maxRecDepth 100000 in
set_option maxHeartbeats 4000000 in
theorem closedAllWithBuffer : joinedFacts Tryz.prog 13 Tryz.f13 Rows.fnExactWithBufferSpec Rows.fnExactWithBufferRow = true := by
 simp only [joinedFacts, Bool.and_eq_true]
 and_intros
 all_goals (as_aux_lemma => kernel_rfl)
theorem closedInstWithBuffer : (Tryz.f13).isInstance Tryz.prog Rows.fnExactWithBufferRow.origin Rows.fnExactWithBufferRow.targs := of_decide_eq_true (by kernel_rfl)
theorem closedWrapWithBuffer : (Tryz.f13).isWrapper Tryz.prog Rows.fnExactWithBufferRow.wrapper Rows.fnExactWithBufferRow.mainSum := by unfold Func.isWrapper; first | (rw [if_pos (by decide +kernel)]; kernel_rfl) | (rw [if_neg (by decide +kernel)]; exact ⟨rfl, rfl⟩)
end Go.Proofs.YtkbcplnlehdjfaaGreat

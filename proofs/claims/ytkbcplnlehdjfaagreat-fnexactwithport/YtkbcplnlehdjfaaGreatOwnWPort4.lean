/- What the proof leans on, part 4: WithPortClosed. -/
import Derived.Test.YtkbcplnlehdjfaaGreatRows
import Derived.ProofKit
import Derived.JoinedOf

namespace Go.Proofs.YtkbcplnlehdjfaaGreat
open Go.ChangeShapes Go.WideShapes Go.ChangeAt Go.RowKit
theorem closedNameWithPort : Tryz.prog.funcNamed Rows.fnExactWithPortRow.func = some 14 := by kernel_rfl
set_option maxRecDepth 100000 in
set_option maxHeartbeats 4000000 in
theorem closedAllWithPort : joinedFacts Tryz.prog 14 Tryz.f14 Rows.fnExactWithPortSpec Rows.fnExactWithPortRow = true := by
 simp only [joinedFacts, Bool.and_eq_true]
 and_intros
 all_goals (as_aux_lemma => kernel_rfl)
theorem closedInstWithPort : (Tryz.f14).isInstance Tryz.prog Rows.fnExactWithPortRow.origin Rows.fnExactWithPortRow.targs := of_decide_eq_true (by kernel_rfl)
theorem closedWrapWithPort : (Tryz.f14).isWrapper Tryz.prog Rows.fnExactWithPortRow.wrapper Rows.fnExactWithPortRow.mainSum := by unfold Func.isWrapper; first | (rw [if_pos (by decide +kernel)]; kernel_rfl) | (rw [if_neg (by decide +kernel)]; exact ⟨rfl, rfl⟩)
end Go.Proofs.YtkbcplnlehdjfaaGreat

/- What the proof leans on, part 5: WokenClosed. -/
import Derived.Test.YtkbcplnlehdjfaaGreatRows
import Derived.ProofKit
import Derived.JoinedOf

namespace Go.Proofs.YtkbcplnlehdjfaaGreat
open Go.ChangeShapes Go.WideShapes Go.ChangeAt Go.RowKit
theorem closedNameWoken : Tryz.prog.funcNamed Rows.fnExactWokenRow.func = some 19 := by kernel_rfl
set_option maxRecDepth 100000 in
set_option maxHeartbeats 4000000 in
theorem closedAllWoken : joinedFacts Tryz.prog 19 Tryz.f19 Rows.fnExactWokenSpec Rows.fnExactWokenRow = true := by
 simp only [joinedFacts, Bool.and_eq_true]
 and_intros
 all_goals (as_aux_lemma => kernel_rfl)
theorem closedInstWoken : (Tryz.f19).isInstance Tryz.prog Rows.fnExactWokenRow.origin Rows.fnExactWokenRow.targs := of_decide_eq_true (by kernel_rfl)
theorem closedWrapWoken : (Tryz.f19).isWrapper Tryz.prog Rows.fnExactWokenRow.wrapper Rows.fnExactWokenRow.mainSum := by unfold Func.isWrapper; first | (rw [if_pos (by decide +kernel)]; kernel_rfl) | (rw [if_neg (by decide +kernel)]; exact ⟨rfl, rfl⟩)
end Go.Proofs.YtkbcplnlehdjfaaGreat

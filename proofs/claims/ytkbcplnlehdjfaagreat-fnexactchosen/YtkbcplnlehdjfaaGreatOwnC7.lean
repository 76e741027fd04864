/- What the proof leans on, part 7: ChosenClosed. -/
import Derived.Test.YtkbcplnlehdjfaaGreatRows
import Derived.ProofKit
import Derived.JoinedOf

namespace Go.Proofs.YtkbcplnlehdjfaaGreat
open Go.ChangeShapes Go.WideShapes Go.ChangeAt Go.RowKit

theorem closedNameChosen : Tryz.prog.funcNamed Rows.fnExactChosenRow.func = some 16 := by kernel_rfl
set_option maxRecDepth 100000 in
set_option maxHeartbeats 4000000 in
theorem closedAllChosen : joinedFacts Tryz.prog 16 Tryz.f16 Rows.fnExactChosenSpec Rows.fnExactChosenRow = true := by
  simp only [joinedFacts, Bool.and_eq_true]
  and_intros
  all_goals (as_aux_lemma => kernel_rfl)
theorem closedInstChosen : (Tryz.f16).isInstance Tryz.prog Rows.fnExactChosenRow.origin Rows.fnExactChosenRow.targs := of_decide_eq_true (by kernel_rfl)
theorem closedWrapChosen : (Tryz.f16).isWrapper Tryz.prog Rows.fnExactChosenRow.wrapper Rows.fnExactChosenRow.mainSum := by unfold Func.isWrapper; first | (rw [if_pos (by decide +kernel)]; kernel_rfl) | (rw [if_neg (by decide +kernel)]; exact ⟨rfl, rfl⟩)

end Go.Proofs.YtkbcplnlehdjfaaGreat

/- What the proof leans on, part 47. -/
import Derived.Test.YtkbcplnlehdjfaaGreatRows
import Derived.ProofKit
set_option maxRecDepth 100000
set_option maxHeartbeats 8000000
open Go.Proofs.Tryz renaming prog->J3

namespace Go.Proofs.YtkbcplnlehdjfaaGreat
open Go.ChangeShapes Go.WideShapes Go.ChangeAt Go.RowKit
theorem M6:Tryz.prog.funcNamed Rows.fnStartedRow.func=some 5:=by kernel_rfl
theorem Nj:joinedFacts J3 5 Tryz.f5 Rows.fnStartedSpec Rows.fnStartedRow=true:=by
 simp only [joinedFacts,Bool.and_eq_true]
 and_intros
 all_goals (as_aux_lemma=>kernel_rfl)
theorem M7:(Tryz.f5).isInstance J3 Rows.fnStartedRow.origin Rows.fnStartedRow.targs:=of_decide_eq_true (by kernel_rfl)
theorem M8:(Tryz.f5).isWrapper J3 Rows.fnStartedRow.wrapper Rows.fnStartedRow.mainSum:=by unfold Func.isWrapper; first | (rw [if_pos (by decide +kernel)]; kernel_rfl) | (rw [if_neg (by decide +kernel)]; exact ⟨rfl,rfl⟩)
end Go.Proofs.YtkbcplnlehdjfaaGreat

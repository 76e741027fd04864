/- What the proof leans on, part 48. -/
import Derived.Test.YtkbcplnlehdjfaaGreatRows
import Derived.ProofKit
set_option maxRecDepth 100000
set_option maxHeartbeats 8000000
open Go.Proofs.Tryz renaming prog->J3

namespace Go.Proofs.YtkbcplnlehdjfaaGreat
open Go.ChangeShapes Go.WideShapes Go.ChangeAt Go.RowKit
theorem SI:Tryz.prog.funcNamed Rows.fnPartsRow.func=some 3:=by kernel_rfl
theorem SN:joinedFacts J3 3 Tryz.f3 Rows.fnPartsSpec Rows.fnPartsRow=true:=by
 simp only [joinedFacts,Bool.and_eq_true]
 and_intros
 all_goals (as_aux_lemma=>kernel_rfl)
theorem SJ:(Tryz.f3).isInstance J3 Rows.fnPartsRow.origin Rows.fnPartsRow.targs:=of_decide_eq_true (by kernel_rfl)
theorem SK:(Tryz.f3).isWrapper J3 Rows.fnPartsRow.wrapper Rows.fnPartsRow.mainSum:=by unfold Func.isWrapper; first | (rw [if_pos (by decide +kernel)]; kernel_rfl) | (rw [if_neg (by decide +kernel)]; exact ⟨rfl,rfl⟩)
end Go.Proofs.YtkbcplnlehdjfaaGreat

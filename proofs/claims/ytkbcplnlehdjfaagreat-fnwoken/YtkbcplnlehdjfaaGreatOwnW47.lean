/- What the proof leans on, part 47. -/
import Derived.Test.YtkbcplnlehdjfaaGreatRows
import Derived.ProofKit
set_option maxRecDepth 100000
set_option maxHeartbeats 8000000
open Go.Proofs.Tryz renaming prog->J3

namespace Go.Proofs.YtkbcplnlehdjfaaGreat
open Go.ChangeShapes Go.WideShapes Go.ChangeAt Go.RowKit
theorem R5:Tryz.prog.funcNamed Rows.fnWokenRow.func=some 7:=by kernel_rfl
theorem R7:joinedFacts J3 7 Tryz.f7 Rows.fnWokenSpec Rows.fnWokenRow=true:=by
 simp only [joinedFacts,Bool.and_eq_true]
 and_intros
 all_goals (as_aux_lemma=>kernel_rfl)
theorem R6:(Tryz.f7).isInstance J3 Rows.fnWokenRow.origin Rows.fnWokenRow.targs:=of_decide_eq_true (by kernel_rfl)
theorem R4:(Tryz.f7).isWrapper J3 Rows.fnWokenRow.wrapper Rows.fnWokenRow.mainSum:=by unfold Func.isWrapper; first | (rw [if_pos (by decide +kernel)]; kernel_rfl) | (rw [if_neg (by decide +kernel)]; exact ⟨rfl,rfl⟩)
end Go.Proofs.YtkbcplnlehdjfaaGreat

/- What the proof leans on, part 7. -/
import Derived.Test.YteidkehoekbcaaaGreatRows
import Derived.ProofKit
set_option maxRecDepth 100000
set_option maxHeartbeats 8000000
open Go.Proofs.Tryz renaming prog->J3

namespace Go.Proofs.YteidkehoekbcaaaGreat
open Go.ChangeShapes Go.WideShapes Go.ChangeAt Go.RowKit
theorem XC:Tryz.prog.funcNamed Rows.fnExactFeedsIntoRow.func=some 6:=by kernel_rfl
theorem XF:joinedFacts J3 6 Tryz.f6 Rows.fnExactFeedsIntoSpec Rows.fnExactFeedsIntoRow=true:=by
 simp only [joinedFacts,Bool.and_eq_true]
 and_intros
 all_goals (as_aux_lemma=>kernel_rfl)
theorem XD:(Tryz.f6).isInstance J3 Rows.fnExactFeedsIntoRow.origin Rows.fnExactFeedsIntoRow.targs:=of_decide_eq_true (by kernel_rfl)
theorem XE:(Tryz.f6).isWrapper J3 Rows.fnExactFeedsIntoRow.wrapper Rows.fnExactFeedsIntoRow.mainSum:=by unfold Func.isWrapper; first | (rw [if_pos (by decide +kernel)]; kernel_rfl) | (rw [if_neg (by decide +kernel)]; exact ⟨rfl,rfl⟩)
end Go.Proofs.YteidkehoekbcaaaGreat

/- What the proof leans on, part 27. -/
import Derived.Test.YteidkehoekbcaaaGreatRows
import Derived.ProofKit
set_option maxRecDepth 100000
set_option maxHeartbeats 8000000
open Go.Proofs.Tryz renaming prog->J3

namespace Go.Proofs.YteidkehoekbcaaaGreat
open Go.ChangeShapes Go.WideShapes Go.ChangeAt Go.RowKit
theorem A1:Tryz.prog.funcNamed Rows.fnExactKernelOkRow.func=some 3:=by kernel_rfl
theorem B1:joinedFacts J3 3 Tryz.f3 Rows.fnExactKernelOkSpec Rows.fnExactKernelOkRow=true:=by
 simp only [joinedFacts,Bool.and_eq_true]
 and_intros
 all_goals (as_aux_lemma=>kernel_rfl)
theorem xp:(Tryz.f3).isInstance J3 Rows.fnExactKernelOkRow.origin Rows.fnExactKernelOkRow.targs:=of_decide_eq_true (by kernel_rfl)
theorem yo:(Tryz.f3).isWrapper J3 Rows.fnExactKernelOkRow.wrapper Rows.fnExactKernelOkRow.mainSum:=by unfold Func.isWrapper; first | (rw [if_pos (by decide +kernel)]; kernel_rfl) | (rw [if_neg (by decide +kernel)]; exact ⟨rfl,rfl⟩)
end Go.Proofs.YteidkehoekbcaaaGreat

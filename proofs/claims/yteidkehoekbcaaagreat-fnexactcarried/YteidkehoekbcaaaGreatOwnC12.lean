/- What the proof leans on, part 12. -/
import Derived.Test.YteidkehoekbcaaaGreatRows
import Derived.ProofKit
set_option maxRecDepth 100000
set_option maxHeartbeats 8000000
open Go.Proofs.Tryz renaming prog->J3

namespace Go.Proofs.YteidkehoekbcaaaGreat
open Go.ChangeShapes Go.WideShapes Go.ChangeAt Go.RowKit
theorem ack:Tryz.prog.funcNamed Rows.fnExactCarriedRow.func=some 5:=by kernel_rfl
theorem aco:joinedFacts J3 5 Tryz.f5 Rows.fnExactCarriedSpec Rows.fnExactCarriedRow=true:=by
 simp only [joinedFacts,Bool.and_eq_true]
 and_intros
 all_goals (as_aux_lemma=>kernel_rfl)
theorem acn:(Tryz.f5).isInstance J3 Rows.fnExactCarriedRow.origin Rows.fnExactCarriedRow.targs:=of_decide_eq_true (by kernel_rfl)
theorem acj:(Tryz.f5).isWrapper J3 Rows.fnExactCarriedRow.wrapper Rows.fnExactCarriedRow.mainSum:=by unfold Func.isWrapper; first | (rw [if_pos (by decide +kernel)]; kernel_rfl) | (rw [if_neg (by decide +kernel)]; exact ⟨rfl,rfl⟩)
end Go.Proofs.YteidkehoekbcaaaGreat

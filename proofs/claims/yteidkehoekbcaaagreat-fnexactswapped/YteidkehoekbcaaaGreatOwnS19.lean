/- What the proof leans on, part 19. -/
import Derived.Test.YteidkehoekbcaaaGreatRows
import Derived.ProofKit
set_option maxRecDepth 100000
set_option maxHeartbeats 8000000
open Go.Proofs.Tryz renaming prog->J3

namespace Go.Proofs.YteidkehoekbcaaaGreat
open Go.ChangeShapes Go.WideShapes Go.ChangeAt Go.RowKit
theorem ZJ:Tryz.prog.funcNamed Rows.fnExactSwappedRow.func=some 7:=by kernel_rfl
theorem ZQ:joinedFacts J3 7 Tryz.f7 Rows.fnExactSwappedSpec Rows.fnExactSwappedRow=true:=by
 simp only [joinedFacts,Bool.and_eq_true]
 and_intros
 all_goals (as_aux_lemma=>kernel_rfl)
theorem ZO:(Tryz.f7).isInstance J3 Rows.fnExactSwappedRow.origin Rows.fnExactSwappedRow.targs:=of_decide_eq_true (by kernel_rfl)
theorem ZM:(Tryz.f7).isWrapper J3 Rows.fnExactSwappedRow.wrapper Rows.fnExactSwappedRow.mainSum:=by unfold Func.isWrapper; first | (rw [if_pos (by decide +kernel)]; kernel_rfl) | (rw [if_neg (by decide +kernel)]; exact ⟨rfl,rfl⟩)
end Go.Proofs.YteidkehoekbcaaaGreat

/- What the proof leans on, part 12. -/
import Derived.Test.YteidkehoekbcaaaGreatRows
import Derived.ProofKit
set_option maxRecDepth 100000
set_option maxHeartbeats 8000000
open Go.Proofs.Tryz renaming prog->J3

namespace Go.Proofs.YteidkehoekbcaaaGreat
open Go.ChangeShapes Go.WideShapes Go.ChangeAt Go.RowKit
theorem Wk:Tryz.prog.funcNamed Rows.fnExactPartOfRow.func=some 4:=by kernel_rfl
theorem Wo:joinedFacts J3 4 Tryz.f4 Rows.fnExactPartOfSpec Rows.fnExactPartOfRow=true:=by
 simp only [joinedFacts,Bool.and_eq_true]
 and_intros
 all_goals (as_aux_lemma=>kernel_rfl)
theorem Wl:(Tryz.f4).isInstance J3 Rows.fnExactPartOfRow.origin Rows.fnExactPartOfRow.targs:=of_decide_eq_true (by kernel_rfl)
theorem Wm:(Tryz.f4).isWrapper J3 Rows.fnExactPartOfRow.wrapper Rows.fnExactPartOfRow.mainSum:=by unfold Func.isWrapper; first | (rw [if_pos (by decide +kernel)]; kernel_rfl) | (rw [if_neg (by decide +kernel)]; exact ⟨rfl,rfl⟩)
end Go.Proofs.YteidkehoekbcaaaGreat

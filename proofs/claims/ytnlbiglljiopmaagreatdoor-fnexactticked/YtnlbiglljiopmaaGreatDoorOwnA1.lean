/- What the proof leans on, part 1. -/
import Derived.Test.YtnlbiglljiopmaaGreatDoorRows
import Derived.ProofKit
set_option maxRecDepth 100000
set_option maxHeartbeats 8000000
open Go.Proofs.Tryz renaming prog->J3

namespace Go.Proofs.YtnlbiglljiopmaaGreatDoor
open Go.ChangeShapes Go.WideShapes Go.ChangeAt Go.RowKit
theorem ahM:Tryz.prog.funcNamed Rows.fnExactTickedRow.func=some 3:=by kernel_rfl
theorem ah1:joinedFacts J3 3 Tryz.f3 Rows.fnExactTickedSpec Rows.fnExactTickedRow=true:=by
 simp only [joinedFacts,Bool.and_eq_true]
 and_intros
 all_goals (as_aux_lemma=>kernel_rfl)
theorem ahN:(Tryz.f3).isInstance J3 Rows.fnExactTickedRow.origin Rows.fnExactTickedRow.targs:=of_decide_eq_true (by kernel_rfl)
theorem ahP:(Tryz.f3).isWrapper J3 Rows.fnExactTickedRow.wrapper Rows.fnExactTickedRow.mainSum:=by unfold Func.isWrapper; first | (rw [if_pos (by decide +kernel)]; kernel_rfl) | (rw [if_neg (by decide +kernel)]; exact ⟨rfl,rfl⟩)
end Go.Proofs.YtnlbiglljiopmaaGreatDoor

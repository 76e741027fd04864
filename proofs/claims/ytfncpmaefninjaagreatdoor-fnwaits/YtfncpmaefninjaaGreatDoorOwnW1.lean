/- What the proof leans on, part 1. -/
import Derived.Test.YtfncpmaefninjaaGreatDoorRows
import Derived.ProofKit
set_option linter.unusedVariables false
set_option maxRecDepth 100000
set_option maxHeartbeats 8000000
open Go.Proofs.Tryz renaming prog->J3

namespace Go.Proofs.YtfncpmaefninjaaGreatDoor
open Go.ChangeShapes Go.WideShapes Go.ChangeAt Go.RowKit
theorem al5:Tryz.prog.funcNamed Rows.fnWaitsRow.func=some 5:=by kernel_rfl
theorem amh:joinedFacts J3 5 Tryz.f5 Rows.fnWaitsSpec Rows.fnWaitsRow=true:=by
 simp only [joinedFacts,Bool.and_eq_true]
 and_intros
 all_goals (as_aux_lemma=>kernel_rfl)
theorem al7:(Tryz.f5).isInstance J3 Rows.fnWaitsRow.origin Rows.fnWaitsRow.targs:=of_decide_eq_true (by kernel_rfl)
theorem al6:(Tryz.f5).isWrapper J3 Rows.fnWaitsRow.wrapper Rows.fnWaitsRow.mainSum:=by unfold Func.isWrapper; first | (rw [if_pos (by decide +kernel)]; kernel_rfl) | (rw [if_neg (by decide +kernel)]; exact ⟨rfl,rfl⟩)
end Go.Proofs.YtfncpmaefninjaaGreatDoor

/- What the proof leans on, part 1. -/
import Derived.Test.YtgdmbemagdbmaaaGreatDoorRows
import Derived.ProofKit
set_option maxRecDepth 100000
set_option maxHeartbeats 8000000
open Go.Proofs.Tryz renaming prog->J3

namespace Go.Proofs.YtgdmbemagdbmaaaGreatDoor
open Go.ChangeShapes Go.WideShapes Go.ChangeAt Go.RowKit
theorem aka:Tryz.prog.funcNamed Rows.fnRunsRow.func=some 3:=by kernel_rfl
theorem akq:joinedFacts J3 3 Tryz.f3 Rows.fnRunsSpec Rows.fnRunsRow=true:=by
 simp only [joinedFacts,Bool.and_eq_true]
 and_intros
 all_goals (as_aux_lemma=>kernel_rfl)
theorem akm:(Tryz.f3).isInstance J3 Rows.fnRunsRow.origin Rows.fnRunsRow.targs:=of_decide_eq_true (by kernel_rfl)
theorem akf:(Tryz.f3).isWrapper J3 Rows.fnRunsRow.wrapper Rows.fnRunsRow.mainSum:=by unfold Func.isWrapper; first | (rw [if_pos (by decide +kernel)]; kernel_rfl) | (rw [if_neg (by decide +kernel)]; exact ⟨rfl,rfl⟩)
end Go.Proofs.YtgdmbemagdbmaaaGreatDoor

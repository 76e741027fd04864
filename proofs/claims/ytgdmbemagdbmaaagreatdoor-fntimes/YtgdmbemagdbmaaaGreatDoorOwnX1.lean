/- What the proof leans on, part 1. -/
import Derived.Test.YtgdmbemagdbmaaaGreatDoorRows
import Derived.ProofKit
set_option maxRecDepth 100000
set_option maxHeartbeats 8000000
open Go.Proofs.Tryz renaming prog->J3

namespace Go.Proofs.YtgdmbemagdbmaaaGreatDoor
open Go.ChangeShapes Go.WideShapes Go.ChangeAt Go.RowKit
theorem akc:Tryz.prog.funcNamed Rows.fnTimesRow.func=some 4:=by kernel_rfl
theorem akH:joinedFacts J3 4 Tryz.f4 Rows.fnTimesSpec Rows.fnTimesRow=true:=by
 simp only [joinedFacts,Bool.and_eq_true]
 and_intros
 all_goals (as_aux_lemma=>kernel_rfl)
theorem akv:(Tryz.f4).isInstance J3 Rows.fnTimesRow.origin Rows.fnTimesRow.targs:=of_decide_eq_true (by kernel_rfl)
theorem ako:(Tryz.f4).isWrapper J3 Rows.fnTimesRow.wrapper Rows.fnTimesRow.mainSum:=by unfold Func.isWrapper; first | (rw [if_pos (by decide +kernel)]; kernel_rfl) | (rw [if_neg (by decide +kernel)]; exact ⟨rfl,rfl⟩)
end Go.Proofs.YtgdmbemagdbmaaaGreatDoor

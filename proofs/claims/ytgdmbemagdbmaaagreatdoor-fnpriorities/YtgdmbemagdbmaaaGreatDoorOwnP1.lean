/- What the proof leans on, part 1. -/
import Derived.Test.YtgdmbemagdbmaaaGreatDoorRows
import Derived.ProofKit
set_option maxRecDepth 100000
set_option maxHeartbeats 8000000
open Go.Proofs.Tryz renaming prog->J3

namespace Go.Proofs.YtgdmbemagdbmaaaGreatDoor
open Go.ChangeShapes Go.WideShapes Go.ChangeAt Go.RowKit
theorem ajT:Tryz.prog.funcNamed Rows.fnPrioritiesRow.func=some 5:=by kernel_rfl
theorem akg:joinedFacts J3 5 Tryz.f5 Rows.fnPrioritiesSpec Rows.fnPrioritiesRow=true:=by
 simp only [joinedFacts,Bool.and_eq_true]
 and_intros
 all_goals (as_aux_lemma=>kernel_rfl)
theorem aj7:(Tryz.f5).isInstance J3 Rows.fnPrioritiesRow.origin Rows.fnPrioritiesRow.targs:=of_decide_eq_true (by kernel_rfl)
theorem aj0:(Tryz.f5).isWrapper J3 Rows.fnPrioritiesRow.wrapper Rows.fnPrioritiesRow.mainSum:=by unfold Func.isWrapper; first | (rw [if_pos (by decide +kernel)]; kernel_rfl) | (rw [if_neg (by decide +kernel)]; exact ⟨rfl,rfl⟩)
end Go.Proofs.YtgdmbemagdbmaaaGreatDoor

/- What the proof leans on, part 1. -/
import Derived.Test.YtfncpmaefninjaaGreatDoorRows
import Derived.ProofKit
set_option maxRecDepth 100000
set_option maxHeartbeats 8000000
open Go.Proofs.Tryz renaming prog->J3

namespace Go.Proofs.YtfncpmaefninjaaGreatDoor
open Go.ChangeShapes Go.WideShapes Go.ChangeAt Go.RowKit
theorem amf:Tryz.prog.funcNamed Rows.fnOneRunsRow.func=some 4:=by kernel_rfl
theorem amn:joinedFacts J3 4 Tryz.f4 Rows.fnOneRunsSpec Rows.fnOneRunsRow=true:=by
 simp only [joinedFacts,Bool.and_eq_true]
 and_intros
 all_goals (as_aux_lemma=>kernel_rfl)
theorem ami:(Tryz.f4).isInstance J3 Rows.fnOneRunsRow.origin Rows.fnOneRunsRow.targs:=of_decide_eq_true (by kernel_rfl)
theorem amb:(Tryz.f4).isWrapper J3 Rows.fnOneRunsRow.wrapper Rows.fnOneRunsRow.mainSum:=by unfold Func.isWrapper; first | (rw [if_pos (by decide +kernel)]; kernel_rfl) | (rw [if_neg (by decide +kernel)]; exact ⟨rfl,rfl⟩)
end Go.Proofs.YtfncpmaefninjaaGreatDoor

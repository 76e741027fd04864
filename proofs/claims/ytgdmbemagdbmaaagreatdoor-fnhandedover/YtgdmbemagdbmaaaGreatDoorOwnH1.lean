/- What the proof leans on, part 1. -/
import Derived.Test.YtgdmbemagdbmaaaGreatDoorRows
import Derived.ProofKit
set_option maxRecDepth 100000
set_option maxHeartbeats 8000000
open Go.Proofs.Tryz renaming prog->J3

namespace Go.Proofs.YtgdmbemagdbmaaaGreatDoor
open Go.ChangeShapes Go.WideShapes Go.ChangeAt Go.RowKit
theorem akX:Tryz.prog.funcNamed Rows.fnHandedOverRow.func=some 6:=by kernel_rfl
theorem alj:joinedFacts J3 6 Tryz.f6 Rows.fnHandedOverSpec Rows.fnHandedOverRow=true:=by
 simp only [joinedFacts,Bool.and_eq_true]
 and_intros
 all_goals (as_aux_lemma=>kernel_rfl)
theorem akZ:(Tryz.f6).isInstance J3 Rows.fnHandedOverRow.origin Rows.fnHandedOverRow.targs:=of_decide_eq_true (by kernel_rfl)
theorem ak0:(Tryz.f6).isWrapper J3 Rows.fnHandedOverRow.wrapper Rows.fnHandedOverRow.mainSum:=by unfold Func.isWrapper; first | (rw [if_pos (by decide +kernel)]; kernel_rfl) | (rw [if_neg (by decide +kernel)]; exact ⟨rfl,rfl⟩)
end Go.Proofs.YtgdmbemagdbmaaaGreatDoor

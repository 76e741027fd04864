/- What the proof leans on, part 2. -/
import Derived.Test.YtfncpmaefninjaaGreatDoorRows
import Derived.ProofKit
set_option linter.all false
set_option maxRecDepth 100000
set_option maxHeartbeats 8000000
open Go.Proofs.Tryz renaming prog->J3

open Go.RowKit renaming Hid->bE
namespace Go.Proofs.YtfncpmaefninjaaGreatDoor
open Go.ChangeShapes Go.WideShapes Go.ChangeAt Go.RowKit
theorem amv:Tryz.prog.funcNamed Rows.fnTickedRow.func=some 3:=by kernel_rfl
theorem amY:joinedFacts J3 3 Tryz.f3 Rows.fnTickedSpec Rows.fnTickedRow=true:=by
 simp only [joinedFacts,Bool.and_eq_true]
 and_intros
 all_goals (as_aux_lemma=>kernel_rfl)
theorem amy:(Tryz.f3).isInstance J3 Rows.fnTickedRow.origin Rows.fnTickedRow.targs:=of_decide_eq_true (by kernel_rfl)
theorem amE:(Tryz.f3).isWrapper J3 Rows.fnTickedRow.wrapper Rows.fnTickedRow.mainSum:=by unfold Func.isWrapper; first | (rw [if_pos (by decide +kernel)]; kernel_rfl) | (rw [if_neg (by decide +kernel)]; exact ⟨rfl,rfl⟩)
end Go.Proofs.YtfncpmaefninjaaGreatDoor

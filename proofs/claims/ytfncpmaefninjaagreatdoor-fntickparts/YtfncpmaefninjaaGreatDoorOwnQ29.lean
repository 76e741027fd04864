/- What the proof leans on, part 29. -/
import Derived.Test.YtfncpmaefninjaaGreatDoorRows
import Derived.ProofKit
set_option linter.all false
set_option maxRecDepth 100000
set_option maxHeartbeats 8000000
open Go.Proofs.Tryz renaming prog->J3

open Go.RowKit renaming Hid->bN
namespace Go.Proofs.YtfncpmaefninjaaGreatDoor
open Go.ChangeShapes Go.WideShapes Go.ChangeAt Go.RowKit
theorem amg:Tryz.prog.funcNamed Rows.fnTickPartsRow.func=some 6:=by kernel_rfl
theorem amm:joinedFacts J3 6 Tryz.f6 Rows.fnTickPartsSpec Rows.fnTickPartsRow=true:=by
 simp only [joinedFacts,Bool.and_eq_true]
 and_intros
 all_goals (as_aux_lemma=>kernel_rfl)
theorem amk:(Tryz.f6).isInstance J3 Rows.fnTickPartsRow.origin Rows.fnTickPartsRow.targs:=of_decide_eq_true (by kernel_rfl)
theorem aml:(Tryz.f6).isWrapper J3 Rows.fnTickPartsRow.wrapper Rows.fnTickPartsRow.mainSum:=by unfold Func.isWrapper; first | (rw [if_pos (by decide +kernel)]; kernel_rfl) | (rw [if_neg (by decide +kernel)]; exact ⟨rfl,rfl⟩)
end Go.Proofs.YtfncpmaefninjaaGreatDoor

/- What the proof leans on, part 5: DlThingsClosed. -/
import Derived.Test.YtkbcplnlehdjfaaGreatRows
import Derived.ProofKit
import Derived.JoinedOf
set_option maxRecDepth 100000
set_option maxHeartbeats 8000000
open Go.Proofs.Tryz renaming prog->J3

namespace Go.Proofs.YtkbcplnlehdjfaaGreat
open Go.ChangeShapes Go.WideShapes Go.ChangeAt Go.RowKit
theorem JH:Tryz.prog.funcNamed Rows.fnThingsRow.func=some 4:=by kernel_rfl
theorem JJ:joinedFacts J3 4 Tryz.f4 Rows.fnThingsSpec Rows.fnThingsRow=true:=by
 simp only [joinedFacts,Bool.and_eq_true]
 and_intros
 all_goals (as_aux_lemma=>kernel_rfl)
theorem JG:(Tryz.f4).isInstance J3 Rows.fnThingsRow.origin Rows.fnThingsRow.targs:=of_decide_eq_true (by kernel_rfl)
theorem JF:(Tryz.f4).isWrapper J3 Rows.fnThingsRow.wrapper Rows.fnThingsRow.mainSum:=by unfold Func.isWrapper; first | (rw [if_pos (by decide +kernel)]; kernel_rfl) | (rw [if_neg (by decide +kernel)]; exact ⟨rfl,rfl⟩)
end Go.Proofs.YtkbcplnlehdjfaaGreat

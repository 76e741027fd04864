/- What the proof leans on, part 1: DlChosenClosed. -/
import Derived.Test.YtkbcplnlehdjfaaGreatRows
import Derived.ProofKit
import Derived.JoinedOf
set_option maxRecDepth 100000
set_option maxHeartbeats 8000000

namespace Go.Proofs.YtkbcplnlehdjfaaGreat
open Go.ChangeShapes Go.WideShapes Go.ChangeAt Go.RowKit
theorem qc:Tryz.prog.funcNamed Rows.fnChosenRow.func=some 6:=by kernel_rfl
theorem rq:joinedFacts Tryz.prog 6 Tryz.f6 Rows.fnChosenSpec Rows.fnChosenRow=true:=by
 simp only [joinedFacts,Bool.and_eq_true]
 and_intros
 all_goals (as_aux_lemma=>kernel_rfl)
theorem qD:(Tryz.f6).isInstance Tryz.prog Rows.fnChosenRow.origin Rows.fnChosenRow.targs:=of_decide_eq_true (by kernel_rfl)
theorem p6:(Tryz.f6).isWrapper Tryz.prog Rows.fnChosenRow.wrapper Rows.fnChosenRow.mainSum:=by unfold Func.isWrapper; first | (rw [if_pos (by decide +kernel)]; kernel_rfl) | (rw [if_neg (by decide +kernel)]; exact ⟨rfl,rfl⟩)
end Go.Proofs.YtkbcplnlehdjfaaGreat

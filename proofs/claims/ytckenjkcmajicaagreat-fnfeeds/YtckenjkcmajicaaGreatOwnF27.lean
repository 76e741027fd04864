/- What the proof leans on, part 27. -/
import Derived.Test.YtckenjkcmajicaaGreatRows
import Derived.ProofKit
set_option linter.all false
set_option maxRecDepth 100000
set_option maxHeartbeats 8000000
open Go.Proofs.Tryz renaming prog->J3

open Go.RowKit renaming Hid->bN
namespace Go.Proofs.YtckenjkcmajicaaGreat
open Go.ChangeShapes Go.WideShapes Go.ChangeAt Go.RowKit
theorem apG:Tryz.prog.funcNamed Rows.fnFeedsRow.func=some 4:=by kernel_rfl
theorem apK:joinedFacts J3 4 Tryz.f4 Rows.fnFeedsSpec Rows.fnFeedsRow=true:=by
 simp only [joinedFacts,Bool.and_eq_true]
 and_intros
 all_goals (as_aux_lemma=>kernel_rfl)
theorem apF:(Tryz.f4).isInstance J3 Rows.fnFeedsRow.origin Rows.fnFeedsRow.targs:=of_decide_eq_true (by kernel_rfl)
theorem apE:(Tryz.f4).isWrapper J3 Rows.fnFeedsRow.wrapper Rows.fnFeedsRow.mainSum:=by unfold Func.isWrapper; first | (rw [if_pos (by decide +kernel)]; kernel_rfl) | (rw [if_neg (by decide +kernel)]; exact ⟨rfl,rfl⟩)
end Go.Proofs.YtckenjkcmajicaaGreat

/- What the proof leans on, part 30. -/
import Derived.Test.YtckenjkcmajicaaGreatRows
import Derived.ProofKit
set_option linter.all false
set_option maxRecDepth 100000
set_option maxHeartbeats 8000000
open Go.Proofs.Tryz renaming prog->J3

open Go.RowKit renaming Hid->da
namespace Go.Proofs.YtckenjkcmajicaaGreat
open Go.ChangeShapes Go.WideShapes Go.ChangeAt Go.RowKit
theorem aqH:Tryz.prog.funcNamed Rows.fnCarriedRow.func=some 3:=(by kernel_rfl)
theorem aqM:joinedFacts J3 3 Tryz.f3 Rows.fnCarriedSpec Rows.fnCarriedRow=true:=by
 simp only[joinedFacts,Bool.and_eq_true]
 and_intros
 all_goals(as_aux_lemma=>kernel_rfl)
theorem aqD:(Tryz.f3).isInstance J3 Rows.fnCarriedRow.origin Rows.fnCarriedRow.targs:=of_decide_eq_true (by kernel_rfl)
theorem aqC:(Tryz.f3).isWrapper J3 Rows.fnCarriedRow.wrapper Rows.fnCarriedRow.mainSum:=by unfold Func.isWrapper;first|(rw[if_pos (by decide+kernel)];kernel_rfl)|(rw[if_neg (by decide+kernel)];exact⟨rfl,rfl⟩)
end Go.Proofs.YtckenjkcmajicaaGreat

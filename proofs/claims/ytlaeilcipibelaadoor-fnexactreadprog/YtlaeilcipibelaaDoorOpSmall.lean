/- The small functions of the ops' exact laws: an op's measure, and its copy. -/
import Derived.Test.YtlaeilcipibelaaDoorBase
namespace Go.Proofs.YtlaeilcipibelaaDoor
open Go.RowKit

set_option maxHeartbeats 1000000 in
theorem szOp_any (k n m : Int) (s : ByteArray) (left : Int) (w : World) (hl : s.size ≤ maxLen) (h0 : 0 ≤ left) (h1 : left ≤ 1048576) :
    Calls Tryd.prog 50 #[.agg #[.int .i64 k, .int .i64 n, .int .i64 m, .string s], .int .i64 left] w fun e w' => e = .returned (.int .i64 (szOf left s.size)) ∧ Below w.heap.size w w' := by
  unfold maxLen at hl
  by_cases h : left < s.size
  · have h' : left - (s.size : Int) < 0 := by omega
    go_enter Tryd.func50, Tryd.ntmps50
    go_wp2
    go_ret
    exact ⟨ret_int (szOf_neg h).symm, by go_grown⟩
  · have h' : ¬ left - (s.size : Int) < 0 := by omega
    go_enter Tryd.func50, Tryd.ntmps50
    go_wp2
    go_ret
    exact ⟨ret_int (szOf_pos (by omega)).symm, by go_grown⟩

set_option maxHeartbeats 1000000 in
theorem toOp_any (k n m : Int) (s : ByteArray) (w : World) :
    Calls Tryd.prog 53 #[.agg #[.int .i64 k, .int .i64 n, .int .i64 m, .string s]] w fun e w' => e = .returned (.agg #[.int .i64 k, .int .i64 n, .int .i64 m, .string s]) ∧ Below w.heap.size w w' := by
  go_enter Tryd.func53, Tryd.ntmps53
  go_wp2
  exact bodyPost_ret (v := .agg #[.int .i64 k, .int .i64 n, .int .i64 m, .string s]) (by simp [results, Tryd.results53, go_sem]) rfl ⟨rfl, by go_grown⟩

set_option maxHeartbeats 1000000 in
theorem eqOp_same (k n m : Int) (s : ByteArray) (w : World) :
    Calls Tryd.prog 58 #[.agg #[.int .i64 k, .int .i64 n, .int .i64 m, .string s], .agg #[.int .i64 k, .int .i64 n, .int .i64 m, .string s]] w fun e w' => e = .returned (.bool true) ∧ Below w.heap.size w w' := by
  go_enter Tryd.func58, Tryd.ntmps58
  go_wp2
  go_ret
  exact ⟨ret_bool (by simp), by go_grown⟩

end Go.Proofs.YtlaeilcipibelaaDoor

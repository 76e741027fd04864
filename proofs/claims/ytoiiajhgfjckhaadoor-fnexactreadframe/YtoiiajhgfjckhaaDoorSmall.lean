/- The small functions of the frames' exact laws: what each answers, at every argument. -/
import Derived.Test.YtoiiajhgfjckhaaDoorBase
namespace Go.Proofs.YtoiiajhgfjckhaaDoor
open Go.RowKit

set_option maxHeartbeats 400000 in
theorem szWindowS_any (a : Option Addr) (len cap : Nat) (left : Int) (w : World) (hl : len ≤ maxLen) (h0 : 0 ≤ left) (h1 : left ≤ 1048576) :
    Calls Tryd.prog 45 #[.slice a len cap, .int .i64 left] w fun e w' => e = .returned (.int .i64 (szOf left len)) ∧ w' = w := by
  unfold maxLen at hl
  by_cases h : left < len
  · have h' : left - len < 0 := by omega
    go_enter Tryd.func45, Tryd.ntmps45
    go_wp2
    go_ret
    exact ⟨ret_int (szOf_neg h).symm, rfl⟩
  · have h' : ¬ left - len < 0 := by omega
    go_enter Tryd.func45, Tryd.ntmps45
    go_wp2
    go_ret
    exact ⟨ret_int (szOf_pos (by omega)).symm, rfl⟩

set_option maxHeartbeats 400000 in
/-- A window as the law's own type has it, made one of the program's. -/
theorem toWindow_any (a l p : Int) (w : World) :
    Calls Tryd.prog 70 #[.agg #[.int .i64 a, .int .i64 l, .int .i64 p]] w fun e w' => e = .returned (.agg #[.int .i64 a, .int .i64 l, .int .i64 p]) ∧ Below w.heap.size w w' := by
  go_enter Tryd.func70, Tryd.ntmps70
  go_wp2
  go_returns
  refine ⟨rfl, ?_⟩
  go_grown

set_option maxHeartbeats 400000 in
theorem eqWindow_any (a l p a' l' p' : Int) (w : World) :
    Calls Tryd.prog 71 #[.agg #[.int .i64 a, .int .i64 l, .int .i64 p], .agg #[.int .i64 a', .int .i64 l', .int .i64 p']] w fun e w' => e = .returned (.bool (a == a' && l == l' && p == p')) ∧ Below w.heap.size w w' := by
  by_cases h1 : a = a'
  · by_cases h2 : l = l'
    · by_cases h3 : p = p'
      · subst h1 h2 h3
        go_enter Tryd.func71, Tryd.ntmps71
        go_wp2
        go_ret
        refine ⟨by simp, ?_⟩
        go_grown
      · subst h1 h2
        have k : (p != p') = true := by simp [h3]
        have k' : (p == p') = false := by simp [h3]
        go_enter Tryd.func71, Tryd.ntmps71
        go_wp2
        go_ret
        refine ⟨by simp [h3], ?_⟩
        go_grown
    · subst h1
      have k : (l != l') = true := by simp [h2]
      have k' : (l == l') = false := by simp [h2]
      go_enter Tryd.func71, Tryd.ntmps71
      go_wp2
      go_ret
      refine ⟨by simp [k'], ?_⟩
      go_grown
  · have k : (a != a') = true := by simp [h1]
    have k' : (a == a') = false := by simp [h1]
    go_enter Tryd.func71, Tryd.ntmps71
    go_wp2
    go_ret
    refine ⟨by simp [k'], ?_⟩
    go_grown

end Go.Proofs.YtoiiajhgfjckhaaDoor

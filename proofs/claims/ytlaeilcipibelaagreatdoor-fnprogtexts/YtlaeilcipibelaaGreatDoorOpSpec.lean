/- What OpOk answers, the specification's: by the kind. -/
import Derived.Test.YtlaeilcipibelaaGreatDoorPlain
namespace Go.Proofs.YtlaeilcipibelaaGreatDoor
open Go.RowKit

def isNum (k : Int) : Prop := k = 1 ∨ k = 2 ∨ k = 4 ∨ k = 5 ∨ k = 6 ∨ k = 11 ∨ k = 14 ∨ k = 15 ∨ k = 16
def isWait (k : Int) : Prop := k = 3 ∨ k = 7 ∨ k = 9 ∨ k = 12
def isText (k : Int) : Prop := k = 10 ∨ k = 13
def emptyB (s : ByteArray) : Bool := s.toList.isEmpty
/-- Whether an op is right, by its kind. -/
def opB (k n m : Int) (s : ByteArray) : Bool :=
  if k = 1 ∨ k = 2 ∨ k = 4 ∨ k = 5 ∨ k = 6 ∨ k = 11 ∨ k = 14 ∨ k = 15 ∨ k = 16 then inB n 1 1000 && decide (m = 0) && emptyB s
  else if k = 3 ∨ k = 7 ∨ k = 9 ∨ k = 12 then inB n 1 1000 && inB m (-1) 1000 && emptyB s
  else if k = 8 then inB n 1 1000 && inB m (-1) 1000 && plainB s
  else if k = 10 ∨ k = 13 then inB n 1 1000 && decide (m = 0) && plainB s
  else if k = 17 then decide (n = 0) && decide (m = 0) && emptyB s
  else false

set_option maxHeartbeats 4000000 in
theorem specOp_num (k n m : Int) (s : ByteArray) (w : World) (hk : isNum k) :
    Calls Tryz.prog 34 #[.agg #[.int .i64 k, .int .i64 n, .int .i64 m, .string s]] w fun e w' => e = .returned (.bool (opB k n m s)) ∧ Below w.heap.size w w' := by
  rcases hk with rfl | rfl | rfl | rfl | rfl | rfl | rfl | rfl | rfl
  all_goals
    simp only [opB, Int.reduceEq, or_true, or_false, or_self, if_true, if_false]
    go_enter Tryz.func34, Tryz.ntmps34
    go_wp2_with (go_at_call 49; refine (l1In_any _ _ _ _).mono ?_; rintro e w' ⟨rfl, rfl⟩)
    all_goals go_ret
    all_goals exact ⟨ret_bool (by simp_all [emptyB]), by go_grown⟩

set_option maxHeartbeats 4000000 in
theorem specOp_wait (k n m : Int) (s : ByteArray) (w : World) (hk : isWait k) :
    Calls Tryz.prog 34 #[.agg #[.int .i64 k, .int .i64 n, .int .i64 m, .string s]] w fun e w' => e = .returned (.bool (opB k n m s)) ∧ Below w.heap.size w w' := by
  rcases hk with rfl | rfl | rfl | rfl
  all_goals
    simp only [opB, Int.reduceEq, or_true, or_false, or_self, if_true, if_false]
    go_enter Tryz.func34, Tryz.ntmps34
    go_wp2_with (go_at_call 49; refine (l1In_any _ _ _ _).mono ?_; rintro e w' ⟨rfl, rfl⟩)
    all_goals go_ret
    all_goals exact ⟨ret_bool (by simp_all [emptyB]), by go_grown⟩

set_option maxHeartbeats 4000000 in
theorem specOp_text (k n m : Int) (s : ByteArray) (w : World) (hs : s.size ≤ 1048576) (hk : isText k) :
    Calls Tryz.prog 34 #[.agg #[.int .i64 k, .int .i64 n, .int .i64 m, .string s]] w fun e w' => e = .returned (.bool (opB k n m s)) ∧ Below w.heap.size w w' := by
  rcases hk with rfl | rfl
  all_goals
    simp only [opB, Int.reduceEq, or_true, or_false, or_self, if_true, if_false]
    go_enter Tryz.func34, Tryz.ntmps34
    go_wp2_with (first | (go_at_call 49; refine (l1In_any _ _ _ _).mono ?_; rintro e w' ⟨rfl, rfl⟩) | (go_at_call 50; refine (l2Plain_any _ _ hs).mono ?_; rintro e w' ⟨rfl, rfl⟩))
    all_goals go_ret
    all_goals exact ⟨ret_bool (by simp_all), by go_grown⟩

set_option maxHeartbeats 4000000 in
theorem specOp_rest (k n m : Int) (s : ByteArray) (w : World) (hs : s.size ≤ 1048576) (hk : k = 8 ∨ k = 17) :
    Calls Tryz.prog 34 #[.agg #[.int .i64 k, .int .i64 n, .int .i64 m, .string s]] w fun e w' => e = .returned (.bool (opB k n m s)) ∧ Below w.heap.size w w' := by
  rcases hk with rfl | rfl
  all_goals
    simp only [opB, Int.reduceEq, or_self, if_true, if_false]
    go_enter Tryz.func34, Tryz.ntmps34
    go_wp2_with (first | (go_at_call 49; refine (l1In_any _ _ _ _).mono ?_; rintro e w' ⟨rfl, rfl⟩) | (go_at_call 50; refine (l2Plain_any _ _ hs).mono ?_; rintro e w' ⟨rfl, rfl⟩))
    all_goals go_ret
    all_goals exact ⟨ret_bool (by simp_all [emptyB]), by go_grown⟩

theorem opB_none {k n m : Int} {s : ByteArray} (h : ¬ (1 ≤ k ∧ k ≤ 17)) : opB k n m s = false := by
  unfold opB
  rw [if_neg (by omega), if_neg (by omega), if_neg (by omega), if_neg (by omega), if_neg (by omega)]

set_option maxHeartbeats 4000000 in
theorem specOp_none (k n m : Int) (s : ByteArray) (w : World) (hk : ¬ (1 ≤ k ∧ k ≤ 17)) :
    Calls Tryz.prog 34 #[.agg #[.int .i64 k, .int .i64 n, .int .i64 m, .string s]] w fun e w' => e = .returned (.bool (opB k n m s)) ∧ Below w.heap.size w w' := by
  rw [opB_none hk]
  have e1 : (k == 1) = false := by simp; omega
  have e2 : (k == 2) = false := by simp; omega
  have e3 : (k == 3) = false := by simp; omega
  have e4 : (k == 4) = false := by simp; omega
  have e5 : (k == 5) = false := by simp; omega
  have e6 : (k == 6) = false := by simp; omega
  have e7 : (k == 7) = false := by simp; omega
  have e8 : (k == 8) = false := by simp; omega
  have e9 : (k == 9) = false := by simp; omega
  have e10 : (k == 10) = false := by simp; omega
  have e11 : (k == 11) = false := by simp; omega
  have e12 : (k == 12) = false := by simp; omega
  have e13 : (k == 13) = false := by simp; omega
  have e14 : (k == 14) = false := by simp; omega
  have e15 : (k == 15) = false := by simp; omega
  have e16 : (k == 16) = false := by simp; omega
  have e17 : (k == 17) = false := by simp; omega
  go_enter Tryz.func34, Tryz.ntmps34
  go_wp2_with (go_at_call 49; refine (l1In_any _ _ _ _).mono ?_; rintro e w' ⟨rfl, rfl⟩)
  go_ret
  exact ⟨rfl, by go_grown⟩

theorem specOpOk_any (k n m : Int) (s : ByteArray) (w : World) (hs : s.size ≤ 1048576) :
    Calls Tryz.prog 34 #[.agg #[.int .i64 k, .int .i64 n, .int .i64 m, .string s]] w fun e w' => e = .returned (.bool (opB k n m s)) ∧ Below w.heap.size w w' := by
  by_cases h0 : 1 ≤ k ∧ k ≤ 17
  · by_cases h1 : isNum k
    · exact specOp_num k n m s w h1
    by_cases h2 : isWait k
    · exact specOp_wait k n m s w h2
    by_cases h3 : isText k
    · exact specOp_text k n m s w hs h3
    exact specOp_rest k n m s w hs (by unfold isNum at h1; unfold isWait at h2; unfold isText at h3; omega)
  · exact specOp_none k n m s w h0

end Go.Proofs.YtlaeilcipibelaaGreatDoor

/- The forms of ops: what form an op has, and what op a form is. -/
import Derived.Test.YtlaeilcipibelaaGreatDoorOpImpl
import Derived.Deep.RegionHeld3
import Derived.Deep.DrawnRows
namespace Go.Proofs.YtlaeilcipibelaaGreatDoor
open Go.RowKit
attribute [local go_sem ↓] Go.wp_at_zero Go.wp_at_succ

set_option maxHeartbeats 1000000 in
theorem asOp_bare (k : Int) (w : World) : Calls Tryz.prog 125 #[.agg #[.int .i64 k]] w fun e w' => e = .returned (.agg #[.int .i64 k, .int .i64 0, .int .i64 0, .string ByteArray.empty]) ∧ Below w.heap.size w w' := by
  go_enter Tryz.func125, Tryz.ntmps125
  go_wp2
  exact bodyPost_ret (v := .agg #[.int .i64 k, .int .i64 0, .int .i64 0, .string ByteArray.empty]) (by simp [results, Tryz.results125, go_sem]; try rfl) rfl ⟨rfl, by go_grown⟩
set_option maxHeartbeats 1000000 in
theorem asOp_number (k n : Int) (w : World) : Calls Tryz.prog 121 #[.agg #[.int .i64 k, .int .i64 n]] w fun e w' => e = .returned (.agg #[.int .i64 k, .int .i64 n, .int .i64 0, .string ByteArray.empty]) ∧ Below w.heap.size w w' := by
  go_enter Tryz.func121, Tryz.ntmps121
  go_wp2
  exact bodyPost_ret (v := .agg #[.int .i64 k, .int .i64 n, .int .i64 0, .string ByteArray.empty]) (by simp [results, Tryz.results121, go_sem]; try rfl) rfl ⟨rfl, by go_grown⟩
set_option maxHeartbeats 1000000 in
theorem asOp_wait (k n m : Int) (w : World) : Calls Tryz.prog 122 #[.agg #[.int .i64 k, .int .i64 n, .int .i64 m]] w fun e w' => e = .returned (.agg #[.int .i64 k, .int .i64 n, .int .i64 m, .string ByteArray.empty]) ∧ Below w.heap.size w w' := by
  go_enter Tryz.func122, Tryz.ntmps122
  go_wp2
  exact bodyPost_ret (v := .agg #[.int .i64 k, .int .i64 n, .int .i64 m, .string ByteArray.empty]) (by simp [results, Tryz.results122, go_sem]; try rfl) rfl ⟨rfl, by go_grown⟩
set_option maxHeartbeats 1000000 in
theorem asOp_send (k n m : Int) (s : ByteArray) (w : World) : Calls Tryz.prog 123 #[.agg #[.int .i64 k, .int .i64 n, .int .i64 m, .string s]] w fun e w' => e = .returned (.agg #[.int .i64 k, .int .i64 n, .int .i64 m, .string s]) ∧ Below w.heap.size w w' := by
  go_enter Tryz.func123, Tryz.ntmps123
  go_wp2
  exact bodyPost_ret (v := .agg #[.int .i64 k, .int .i64 n, .int .i64 m, .string s]) (by simp [results, Tryz.results123, go_sem]; try rfl) rfl ⟨rfl, by go_grown⟩
set_option maxHeartbeats 1000000 in
theorem asOp_text (k n : Int) (s : ByteArray) (w : World) : Calls Tryz.prog 124 #[.agg #[.int .i64 k, .int .i64 n, .string s]] w fun e w' => e = .returned (.agg #[.int .i64 k, .int .i64 n, .int .i64 0, .string s]) ∧ Below w.heap.size w w' := by
  go_enter Tryz.func124, Tryz.ntmps124
  go_wp2
  exact bodyPost_ret (v := .agg #[.int .i64 k, .int .i64 n, .int .i64 0, .string s]) (by simp [results, Tryz.results124, go_sem]; try rfl) rfl ⟨rfl, by go_grown⟩
set_option maxHeartbeats 4000000 in
theorem formOf_num (k n m : Int) (s : ByteArray) (w : World) (hk : isNum k) :
    Calls Tryz.prog 15 #[.agg #[.int .i64 k, .int .i64 n, .int .i64 m, .string s]] w fun e w' => e = .returned (.tuple #[.iface 56 (.agg #[.int .i64 k, .int .i64 n]), .bool true]) ∧ Below w.heap.size w w' := by
  rcases hk with rfl | rfl | rfl | rfl | rfl | rfl | rfl | rfl | rfl
  all_goals
    go_enter Tryz.func15, Tryz.ntmps15
    go_wp2
    go_ret2
    exact ⟨rfl, by go_grown⟩
set_option maxHeartbeats 4000000 in
theorem formOf_wait (k n m : Int) (s : ByteArray) (w : World) (hk : isWait k) :
    Calls Tryz.prog 15 #[.agg #[.int .i64 k, .int .i64 n, .int .i64 m, .string s]] w fun e w' => e = .returned (.tuple #[.iface 58 (.agg #[.int .i64 k, .int .i64 n, .int .i64 m]), .bool true]) ∧ Below w.heap.size w w' := by
  rcases hk with rfl | rfl | rfl | rfl
  all_goals
    go_enter Tryz.func15, Tryz.ntmps15
    go_wp2
    go_ret2
    exact ⟨rfl, by go_grown⟩
set_option maxHeartbeats 4000000 in
theorem formOf_send (k n m : Int) (s : ByteArray) (w : World) (hk : k = 8) :
    Calls Tryz.prog 15 #[.agg #[.int .i64 k, .int .i64 n, .int .i64 m, .string s]] w fun e w' => e = .returned (.tuple #[.iface 60 (.agg #[.int .i64 k, .int .i64 n, .int .i64 m, .string s]), .bool true]) ∧ Below w.heap.size w w' := by
  rcases hk with rfl
  all_goals
    go_enter Tryz.func15, Tryz.ntmps15
    go_wp2
    go_ret2
    exact ⟨rfl, by go_grown⟩
set_option maxHeartbeats 4000000 in
theorem formOf_text (k n m : Int) (s : ByteArray) (w : World) (hk : isText k) :
    Calls Tryz.prog 15 #[.agg #[.int .i64 k, .int .i64 n, .int .i64 m, .string s]] w fun e w' => e = .returned (.tuple #[.iface 62 (.agg #[.int .i64 k, .int .i64 n, .string s]), .bool true]) ∧ Below w.heap.size w w' := by
  rcases hk with rfl | rfl
  all_goals
    go_enter Tryz.func15, Tryz.ntmps15
    go_wp2
    go_ret2
    exact ⟨rfl, by go_grown⟩
set_option maxHeartbeats 4000000 in
theorem formOf_loop (k n m : Int) (s : ByteArray) (w : World) (hk : k = 17) :
    Calls Tryz.prog 15 #[.agg #[.int .i64 k, .int .i64 n, .int .i64 m, .string s]] w fun e w' => e = .returned (.tuple #[.iface 64 (.agg #[.int .i64 k]), .bool true]) ∧ Below w.heap.size w w' := by
  rcases hk with rfl
  all_goals
    go_enter Tryz.func15, Tryz.ntmps15
    go_wp2
    go_ret2
    exact ⟨rfl, by go_grown⟩
set_option maxHeartbeats 4000000 in
theorem formOf_none (k n m : Int) (s : ByteArray) (w : World) (hk : ¬ (1 ≤ k ∧ k ≤ 17)) :
    Calls Tryz.prog 15 #[.agg #[.int .i64 k, .int .i64 n, .int .i64 m, .string s]] w fun e w' => e = .returned (.tuple #[.iface 64 (.agg #[.int .i64 0]), .bool false]) ∧ Below w.heap.size w w' := by
  have e1 : (k == 1) = false := by simp; omega
  have e2 : (k == 2) = false := by simp; omega
  have e3 : (k == 3) = false := by simp; omega
  have e4 : (k == 4) = false := by simp; omega
  have e5 : (k == 5) = false := by simp; omega
  have e6 : (k == 6) = false := by simp; omega
  have e7 : (k == 7) = false := by simp; omega
  have e8 : (k == 8) = false := by simp; omega
  have e9 : (k == 9) = false := by simp; omega
  have e10 : (k == 10) = false := by simp; omega
  have e11 : (k == 11) = false := by simp; omega
  have e12 : (k == 12) = false := by simp; omega
  have e13 : (k == 13) = false := by simp; omega
  have e14 : (k == 14) = false := by simp; omega
  have e15 : (k == 15) = false := by simp; omega
  have e16 : (k == 16) = false := by simp; omega
  have e17 : (k == 17) = false := by simp; omega
  go_enter Tryz.func15, Tryz.ntmps15
  go_wp2
  go_ret2
  exact ⟨rfl, by go_grown⟩

end Go.Proofs.YtlaeilcipibelaaGreatDoor

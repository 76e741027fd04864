/- What OpOk answers, the program's: by the form of the kind. -/
import Derived.Test.YtlaeilcipibelaaGreatDoorOpSpec
namespace Go.Proofs.YtlaeilcipibelaaGreatDoor
open Go.RowKit

theorem isNumber_any (n : Int) (w : World) : Calls Tryz.prog 51 #[.int .i64 n] w fun e w' => e = .returned (.bool (inB n 1 1000)) ∧ w' = w := by
  by_cases h1 : 1 ≤ n
  · by_cases h2 : n ≤ 1000
    · go_enter Tryz.func51, Tryz.ntmps51
      go_wp2
      go_ret
      exact ⟨ret_bool (inB_true h1 h2).symm, rfl⟩
    · go_enter Tryz.func51, Tryz.ntmps51
      go_wp2
      go_ret
      exact ⟨ret_bool (inB_high (by omega)).symm, rfl⟩
  · go_enter Tryz.func51, Tryz.ntmps51
    go_wp2
    go_ret
    exact ⟨ret_bool (inB_low (by omega)).symm, rfl⟩
theorem isPatience_any (n : Int) (w : World) : Calls Tryz.prog 52 #[.int .i64 n] w fun e w' => e = .returned (.bool (inB n (-1) 1000)) ∧ w' = w := by
  by_cases h1 : -1 ≤ n
  · by_cases h2 : n ≤ 1000
    · go_enter Tryz.func52, Tryz.ntmps52
      go_wp2
      go_ret
      exact ⟨ret_bool (inB_true h1 h2).symm, rfl⟩
    · go_enter Tryz.func52, Tryz.ntmps52
      go_wp2
      go_ret
      exact ⟨ret_bool (inB_high (by omega)).symm, rfl⟩
  · go_enter Tryz.func52, Tryz.ntmps52
    go_wp2
    go_ret
    exact ⟨ret_bool (inB_low (by omega)).symm, rfl⟩

/-! ### Which form an interface value bears. -/
theorem as_bare_bare (v : Value) (w : World) : (Instr.typeAssert (.iface 64 v) 39 64 true).run Tryz.prog w = .ok (.tuple #[v, .bool true]) w := by kernel_rfl
theorem as_bare_number (v : Value) (w : World) : (Instr.typeAssert (.iface 64 v) 39 56 true).run Tryz.prog w = .ok (.tuple #[.agg #[.int .i64 0, .int .i64 0], .bool false]) w := by kernel_rfl
theorem as_bare_wait (v : Value) (w : World) : (Instr.typeAssert (.iface 64 v) 39 58 true).run Tryz.prog w = .ok (.tuple #[.agg #[.int .i64 0, .int .i64 0, .int .i64 0], .bool false]) w := by kernel_rfl
theorem as_bare_send (v : Value) (w : World) : (Instr.typeAssert (.iface 64 v) 39 60 true).run Tryz.prog w = .ok (.tuple #[.agg #[.int .i64 0, .int .i64 0, .int .i64 0, .string ByteArray.empty], .bool false]) w := by kernel_rfl
theorem as_bare_text (v : Value) (w : World) : (Instr.typeAssert (.iface 64 v) 39 62 true).run Tryz.prog w = .ok (.tuple #[.agg #[.int .i64 0, .int .i64 0, .string ByteArray.empty], .bool false]) w := by kernel_rfl
theorem as_number_bare (v : Value) (w : World) : (Instr.typeAssert (.iface 56 v) 39 64 true).run Tryz.prog w = .ok (.tuple #[.agg #[.int .i64 0], .bool false]) w := by kernel_rfl
theorem as_number_number (v : Value) (w : World) : (Instr.typeAssert (.iface 56 v) 39 56 true).run Tryz.prog w = .ok (.tuple #[v, .bool true]) w := by kernel_rfl
theorem as_number_wait (v : Value) (w : World) : (Instr.typeAssert (.iface 56 v) 39 58 true).run Tryz.prog w = .ok (.tuple #[.agg #[.int .i64 0, .int .i64 0, .int .i64 0], .bool false]) w := by kernel_rfl
theorem as_number_send (v : Value) (w : World) : (Instr.typeAssert (.iface 56 v) 39 60 true).run Tryz.prog w = .ok (.tuple #[.agg #[.int .i64 0, .int .i64 0, .int .i64 0, .string ByteArray.empty], .bool false]) w := by kernel_rfl
theorem as_number_text (v : Value) (w : World) : (Instr.typeAssert (.iface 56 v) 39 62 true).run Tryz.prog w = .ok (.tuple #[.agg #[.int .i64 0, .int .i64 0, .string ByteArray.empty], .bool false]) w := by kernel_rfl
theorem as_wait_bare (v : Value) (w : World) : (Instr.typeAssert (.iface 58 v) 39 64 true).run Tryz.prog w = .ok (.tuple #[.agg #[.int .i64 0], .bool false]) w := by kernel_rfl
theorem as_wait_number (v : Value) (w : World) : (Instr.typeAssert (.iface 58 v) 39 56 true).run Tryz.prog w = .ok (.tuple #[.agg #[.int .i64 0, .int .i64 0], .bool false]) w := by kernel_rfl
theorem as_wait_wait (v : Value) (w : World) : (Instr.typeAssert (.iface 58 v) 39 58 true).run Tryz.prog w = .ok (.tuple #[v, .bool true]) w := by kernel_rfl
theorem as_wait_send (v : Value) (w : World) : (Instr.typeAssert (.iface 58 v) 39 60 true).run Tryz.prog w = .ok (.tuple #[.agg #[.int .i64 0, .int .i64 0, .int .i64 0, .string ByteArray.empty], .bool false]) w := by kernel_rfl
theorem as_wait_text (v : Value) (w : World) : (Instr.typeAssert (.iface 58 v) 39 62 true).run Tryz.prog w = .ok (.tuple #[.agg #[.int .i64 0, .int .i64 0, .string ByteArray.empty], .bool false]) w := by kernel_rfl
theorem as_send_bare (v : Value) (w : World) : (Instr.typeAssert (.iface 60 v) 39 64 true).run Tryz.prog w = .ok (.tuple #[.agg #[.int .i64 0], .bool false]) w := by kernel_rfl
theorem as_send_number (v : Value) (w : World) : (Instr.typeAssert (.iface 60 v) 39 56 true).run Tryz.prog w = .ok (.tuple #[.agg #[.int .i64 0, .int .i64 0], .bool false]) w := by kernel_rfl
theorem as_send_wait (v : Value) (w : World) : (Instr.typeAssert (.iface 60 v) 39 58 true).run Tryz.prog w = .ok (.tuple #[.agg #[.int .i64 0, .int .i64 0, .int .i64 0], .bool false]) w := by kernel_rfl
theorem as_send_send (v : Value) (w : World) : (Instr.typeAssert (.iface 60 v) 39 60 true).run Tryz.prog w = .ok (.tuple #[v, .bool true]) w := by kernel_rfl
theorem as_send_text (v : Value) (w : World) : (Instr.typeAssert (.iface 60 v) 39 62 true).run Tryz.prog w = .ok (.tuple #[.agg #[.int .i64 0, .int .i64 0, .string ByteArray.empty], .bool false]) w := by kernel_rfl
theorem as_text_bare (v : Value) (w : World) : (Instr.typeAssert (.iface 62 v) 39 64 true).run Tryz.prog w = .ok (.tuple #[.agg #[.int .i64 0], .bool false]) w := by kernel_rfl
theorem as_text_number (v : Value) (w : World) : (Instr.typeAssert (.iface 62 v) 39 56 true).run Tryz.prog w = .ok (.tuple #[.agg #[.int .i64 0, .int .i64 0], .bool false]) w := by kernel_rfl
theorem as_text_wait (v : Value) (w : World) : (Instr.typeAssert (.iface 62 v) 39 58 true).run Tryz.prog w = .ok (.tuple #[.agg #[.int .i64 0, .int .i64 0, .int .i64 0], .bool false]) w := by kernel_rfl
theorem as_text_send (v : Value) (w : World) : (Instr.typeAssert (.iface 62 v) 39 60 true).run Tryz.prog w = .ok (.tuple #[.agg #[.int .i64 0, .int .i64 0, .int .i64 0, .string ByteArray.empty], .bool false]) w := by kernel_rfl
theorem as_text_text (v : Value) (w : World) : (Instr.typeAssert (.iface 62 v) 39 62 true).run Tryz.prog w = .ok (.tuple #[v, .bool true]) w := by kernel_rfl

set_option maxHeartbeats 4000000 in
theorem formOk_bare (k : Int) (w : World) :
    Calls Tryz.prog 37 #[.iface 64 (.agg #[.int .i64 k])] w fun e w' => e = .returned (.bool (true)) ∧ Below w.heap.size w w' := by
  have h_bare := as_bare_bare (.agg #[.int .i64 k])
  go_enter Tryz.func37, Tryz.ntmps37
  go_wp2_with (first | (go_at_call 51; refine (isNumber_any _ _).mono ?_; rintro e w' ⟨rfl, rfl⟩) | (go_at_call 52; refine (isPatience_any _ _).mono ?_; rintro e w' ⟨rfl, rfl⟩))
  all_goals go_ret
  all_goals exact ⟨ret_bool (by simp_all), by go_grown⟩

set_option maxHeartbeats 4000000 in
theorem formOk_number (k n : Int) (w : World) :
    Calls Tryz.prog 37 #[.iface 56 (.agg #[.int .i64 k, .int .i64 n])] w fun e w' => e = .returned (.bool (inB n 1 1000)) ∧ Below w.heap.size w w' := by
  have h_bare := as_number_bare (.agg #[.int .i64 k, .int .i64 n])
  have h_number := as_number_number (.agg #[.int .i64 k, .int .i64 n])
  go_enter Tryz.func37, Tryz.ntmps37
  go_wp2_with (first | (go_at_call 51; refine (isNumber_any _ _).mono ?_; rintro e w' ⟨rfl, rfl⟩) | (go_at_call 52; refine (isPatience_any _ _).mono ?_; rintro e w' ⟨rfl, rfl⟩))
  all_goals go_ret
  all_goals exact ⟨ret_bool (by simp_all), by go_grown⟩

set_option maxHeartbeats 4000000 in
theorem formOk_wait (k n m : Int) (w : World) :
    Calls Tryz.prog 37 #[.iface 58 (.agg #[.int .i64 k, .int .i64 n, .int .i64 m])] w fun e w' => e = .returned (.bool (inB n 1 1000 && inB m (-1) 1000)) ∧ Below w.heap.size w w' := by
  have h_bare := as_wait_bare (.agg #[.int .i64 k, .int .i64 n, .int .i64 m])
  have h_number := as_wait_number (.agg #[.int .i64 k, .int .i64 n, .int .i64 m])
  have h_wait := as_wait_wait (.agg #[.int .i64 k, .int .i64 n, .int .i64 m])
  go_enter Tryz.func37, Tryz.ntmps37
  go_wp2_with (first | (go_at_call 51; refine (isNumber_any _ _).mono ?_; rintro e w' ⟨rfl, rfl⟩) | (go_at_call 52; refine (isPatience_any _ _).mono ?_; rintro e w' ⟨rfl, rfl⟩))
  all_goals go_ret
  all_goals exact ⟨ret_bool (by simp_all), by go_grown⟩

set_option maxHeartbeats 4000000 in
theorem formOk_send (k n m : Int) (s : ByteArray) (w : World) (hs : s.size ≤ 1048576) :
    Calls Tryz.prog 37 #[.iface 60 (.agg #[.int .i64 k, .int .i64 n, .int .i64 m, .string s])] w fun e w' => e = .returned (.bool (inB n 1 1000 && inB m (-1) 1000 && plainB s)) ∧ Below w.heap.size w w' := by
  have h_bare := as_send_bare (.agg #[.int .i64 k, .int .i64 n, .int .i64 m, .string s])
  have h_number := as_send_number (.agg #[.int .i64 k, .int .i64 n, .int .i64 m, .string s])
  have h_wait := as_send_wait (.agg #[.int .i64 k, .int .i64 n, .int .i64 m, .string s])
  have h_send := as_send_send (.agg #[.int .i64 k, .int .i64 n, .int .i64 m, .string s])
  go_enter Tryz.func37, Tryz.ntmps37
  go_wp2_with (first | (go_at_call 51; refine (isNumber_any _ _).mono ?_; rintro e w' ⟨rfl, rfl⟩) | (go_at_call 52; refine (isPatience_any _ _).mono ?_; rintro e w' ⟨rfl, rfl⟩) | (go_at_call 53; refine (isPlain_any _ _ hs).mono ?_; rintro e w' ⟨rfl, rfl⟩))
  all_goals go_ret
  all_goals exact ⟨ret_bool (by simp_all), by go_grown⟩

set_option maxHeartbeats 4000000 in
theorem formOk_text (k n : Int) (s : ByteArray) (w : World) (hs : s.size ≤ 1048576) :
    Calls Tryz.prog 37 #[.iface 62 (.agg #[.int .i64 k, .int .i64 n, .string s])] w fun e w' => e = .returned (.bool (inB n 1 1000 && plainB s)) ∧ Below w.heap.size w w' := by
  have h_bare := as_text_bare (.agg #[.int .i64 k, .int .i64 n, .string s])
  have h_number := as_text_number (.agg #[.int .i64 k, .int .i64 n, .string s])
  have h_wait := as_text_wait (.agg #[.int .i64 k, .int .i64 n, .string s])
  have h_send := as_text_send (.agg #[.int .i64 k, .int .i64 n, .string s])
  have h_text := as_text_text (.agg #[.int .i64 k, .int .i64 n, .string s])
  go_enter Tryz.func37, Tryz.ntmps37
  go_wp2_with (first | (go_at_call 51; refine (isNumber_any _ _).mono ?_; rintro e w' ⟨rfl, rfl⟩) | (go_at_call 52; refine (isPatience_any _ _).mono ?_; rintro e w' ⟨rfl, rfl⟩) | (go_at_call 53; refine (isPlain_any _ _ hs).mono ?_; rintro e w' ⟨rfl, rfl⟩))
  all_goals go_ret
  all_goals exact ⟨ret_bool (by simp_all), by go_grown⟩

end Go.Proofs.YtlaeilcipibelaaGreatDoor

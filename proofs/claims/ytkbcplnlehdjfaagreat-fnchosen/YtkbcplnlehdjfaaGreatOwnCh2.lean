/- What the proof leans on, part 2: OpDt, OpImpl, DlBase. -/
import Derived.Test.YtkbcplnlehdjfaaGreatOwnCh1
import Derived.Test.YtkbcplnlehdjfaaGreatRows
import Derived.ProofKit
import Derived.OpenShut
import Derived.ShutString
import Derived.ChangeOld
import Derived.Below

namespace Go.Proofs.YtkbcplnlehdjfaaGreat
open Go.RowKit
abbrev OpD := Int × Int × Int × ByteArray
def opOk (o : OpD) : Bool := opB o.1 o.2.1 o.2.2.1 o.2.2.2
end Go.Proofs.YtkbcplnlehdjfaaGreat

/- What OpOk answers, the program's: by the form of the kind. -/
namespace Go.Proofs.YtkbcplnlehdjfaaGreat
open Go.RowKit
theorem isNumber_any (n : Int) (w : World) : Calls Tryz.prog 164 #[.int .i64 n] w fun e w' => e = .returned (.bool (inB n 1 1000)) ∧ w' = w := by
 by_cases h1 : 1 ≤ n
 ·by_cases h2 : n ≤ 1000
  ·go_enter Tryz.func164, Tryz.ntmps164
   go_wp2
   go_ret
   exact ⟨ret_bool (inB_true h1 h2).symm, rfl⟩
  ·go_enter Tryz.func164, Tryz.ntmps164
   go_wp2
   go_ret
   exact ⟨ret_bool (inB_high (by omega)).symm, rfl⟩
 ·go_enter Tryz.func164, Tryz.ntmps164
  go_wp2
  go_ret
  exact ⟨ret_bool (inB_low (by omega)).symm, rfl⟩
theorem isPatience_any (n : Int) (w : World) : Calls Tryz.prog 292 #[.int .i64 n] w fun e w' => e = .returned (.bool (inB n (-1) 1000)) ∧ w' = w := by
 by_cases h1 : -1 ≤ n
 ·by_cases h2 : n ≤ 1000
  ·go_enter Tryz.func292, Tryz.ntmps292
   go_wp2
   go_ret
   exact ⟨ret_bool (inB_true h1 h2).symm, rfl⟩
  ·go_enter Tryz.func292, Tryz.ntmps292
   go_wp2
   go_ret
   exact ⟨ret_bool (inB_high (by omega)).symm, rfl⟩
 ·go_enter Tryz.func292, Tryz.ntmps292
  go_wp2
  go_ret
  exact ⟨ret_bool (inB_low (by omega)).symm, rfl⟩
/-! ### Which form an interface value bears. -/
theorem as_bare_bare (v : Value) (w : World) : (Instr.typeAssert (.iface 338 v) 325 338 true).run Tryz.prog w = .ok (.tuple #[v, .bool true]) w := by kernel_rfl
theorem as_number_bare (v : Value) (w : World) : (Instr.typeAssert (.iface 330 v) 325 338 true).run Tryz.prog w = .ok (.tuple #[.agg #[.int .i64 0], .bool false]) w := by kernel_rfl
theorem as_number_number (v : Value) (w : World) : (Instr.typeAssert (.iface 330 v) 325 330 true).run Tryz.prog w = .ok (.tuple #[v, .bool true]) w := by kernel_rfl
theorem as_wait_bare (v : Value) (w : World) : (Instr.typeAssert (.iface 332 v) 325 338 true).run Tryz.prog w = .ok (.tuple #[.agg #[.int .i64 0], .bool false]) w := by kernel_rfl
theorem as_wait_number (v : Value) (w : World) : (Instr.typeAssert (.iface 332 v) 325 330 true).run Tryz.prog w = .ok (.tuple #[.agg #[.int .i64 0, .int .i64 0], .bool false]) w := by kernel_rfl
theorem as_wait_wait (v : Value) (w : World) : (Instr.typeAssert (.iface 332 v) 325 332 true).run Tryz.prog w = .ok (.tuple #[v, .bool true]) w := by kernel_rfl
theorem as_send_bare (v : Value) (w : World) : (Instr.typeAssert (.iface 334 v) 325 338 true).run Tryz.prog w = .ok (.tuple #[.agg #[.int .i64 0], .bool false]) w := by kernel_rfl
theorem as_send_number (v : Value) (w : World) : (Instr.typeAssert (.iface 334 v) 325 330 true).run Tryz.prog w = .ok (.tuple #[.agg #[.int .i64 0, .int .i64 0], .bool false]) w := by kernel_rfl
theorem as_send_wait (v : Value) (w : World) : (Instr.typeAssert (.iface 334 v) 325 332 true).run Tryz.prog w = .ok (.tuple #[.agg #[.int .i64 0, .int .i64 0, .int .i64 0], .bool false]) w := by kernel_rfl
theorem as_send_send (v : Value) (w : World) : (Instr.typeAssert (.iface 334 v) 325 334 true).run Tryz.prog w = .ok (.tuple #[v, .bool true]) w := by kernel_rfl
theorem as_text_bare (v : Value) (w : World) : (Instr.typeAssert (.iface 336 v) 325 338 true).run Tryz.prog w = .ok (.tuple #[.agg #[.int .i64 0], .bool false]) w := by kernel_rfl
theorem as_text_number (v : Value) (w : World) : (Instr.typeAssert (.iface 336 v) 325 330 true).run Tryz.prog w = .ok (.tuple #[.agg #[.int .i64 0, .int .i64 0], .bool false]) w := by kernel_rfl
theorem as_text_wait (v : Value) (w : World) : (Instr.typeAssert (.iface 336 v) 325 332 true).run Tryz.prog w = .ok (.tuple #[.agg #[.int .i64 0, .int .i64 0, .int .i64 0], .bool false]) w := by kernel_rfl
theorem as_text_send (v : Value) (w : World) : (Instr.typeAssert (.iface 336 v) 325 334 true).run Tryz.prog w = .ok (.tuple #[.agg #[.int .i64 0, .int .i64 0, .int .i64 0, .string ByteArray.empty], .bool false]) w := by kernel_rfl
theorem as_text_text (v : Value) (w : World) : (Instr.typeAssert (.iface 336 v) 325 336 true).run Tryz.prog w = .ok (.tuple #[v, .bool true]) w := by kernel_rfl
set_option maxHeartbeats 4000000 in
theorem formOk_bare (k : Int) (w : World) :
  Calls Tryz.prog 291 #[.iface 338 (.agg #[.int .i64 k])] w fun e w' => e = .returned (.bool (true)) ∧ Below w.heap.size w w' := by
 have h_bare := as_bare_bare (.agg #[.int .i64 k])
 go_enter Tryz.func291, Tryz.ntmps291
 go_wp2_with (first | (go_at_call 164; refine (isNumber_any _ _).mono ?_; rintro e w' ⟨rfl, rfl⟩) | (go_at_call 292; refine (isPatience_any _ _).mono ?_; rintro e w' ⟨rfl, rfl⟩))
 all_goals go_ret
 all_goals exact ⟨ret_bool (by simp_all), by go_grown⟩
set_option maxHeartbeats 4000000 in
theorem formOk_number (k n : Int) (w : World) :
  Calls Tryz.prog 291 #[.iface 330 (.agg #[.int .i64 k, .int .i64 n])] w fun e w' => e = .returned (.bool (inB n 1 1000)) ∧ Below w.heap.size w w' := by
 have h_bare := as_number_bare (.agg #[.int .i64 k, .int .i64 n])
 have h_number := as_number_number (.agg #[.int .i64 k, .int .i64 n])
 go_enter Tryz.func291, Tryz.ntmps291
 go_wp2_with (first | (go_at_call 164; refine (isNumber_any _ _).mono ?_; rintro e w' ⟨rfl, rfl⟩) | (go_at_call 292; refine (isPatience_any _ _).mono ?_; rintro e w' ⟨rfl, rfl⟩))
 all_goals go_ret
 all_goals exact ⟨ret_bool (by simp_all), by go_grown⟩
set_option maxHeartbeats 4000000 in
theorem formOk_wait (k n m : Int) (w : World) :
  Calls Tryz.prog 291 #[.iface 332 (.agg #[.int .i64 k, .int .i64 n, .int .i64 m])] w fun e w' => e = .returned (.bool (inB n 1 1000 && inB m (-1) 1000)) ∧ Below w.heap.size w w' := by
 have h_bare := as_wait_bare (.agg #[.int .i64 k, .int .i64 n, .int .i64 m])
 have h_number := as_wait_number (.agg #[.int .i64 k, .int .i64 n, .int .i64 m])
 have h_wait := as_wait_wait (.agg #[.int .i64 k, .int .i64 n, .int .i64 m])
 go_enter Tryz.func291, Tryz.ntmps291
 go_wp2_with (first | (go_at_call 164; refine (isNumber_any _ _).mono ?_; rintro e w' ⟨rfl, rfl⟩) | (go_at_call 292; refine (isPatience_any _ _).mono ?_; rintro e w' ⟨rfl, rfl⟩))
 all_goals go_ret
 all_goals exact ⟨ret_bool (by simp_all), by go_grown⟩
set_option maxHeartbeats 4000000 in
theorem formOk_send (k n m : Int) (s : ByteArray) (w : World) (hs : s.size ≤ 1048576) :
  Calls Tryz.prog 291 #[.iface 334 (.agg #[.int .i64 k, .int .i64 n, .int .i64 m, .string s])] w fun e w' => e = .returned (.bool (inB n 1 1000 && inB m (-1) 1000 && plainB s)) ∧ Below w.heap.size w w' := by
 have h_bare := as_send_bare (.agg #[.int .i64 k, .int .i64 n, .int .i64 m, .string s])
 have h_number := as_send_number (.agg #[.int .i64 k, .int .i64 n, .int .i64 m, .string s])
 have h_wait := as_send_wait (.agg #[.int .i64 k, .int .i64 n, .int .i64 m, .string s])
 have h_send := as_send_send (.agg #[.int .i64 k, .int .i64 n, .int .i64 m, .string s])
 go_enter Tryz.func291, Tryz.ntmps291
 go_wp2_with (first | (go_at_call 164; refine (isNumber_any _ _).mono ?_; rintro e w' ⟨rfl, rfl⟩) | (go_at_call 292; refine (isPatience_any _ _).mono ?_; rintro e w' ⟨rfl, rfl⟩) | (go_at_call 285; refine (isPlain_any _ _ hs).mono ?_; rintro e w' ⟨rfl, rfl⟩))
 all_goals go_ret
 all_goals exact ⟨ret_bool (by simp_all), by go_grown⟩
set_option maxHeartbeats 4000000 in
theorem formOk_text (k n : Int) (s : ByteArray) (w : World) (hs : s.size ≤ 1048576) :
  Calls Tryz.prog 291 #[.iface 336 (.agg #[.int .i64 k, .int .i64 n, .string s])] w fun e w' => e = .returned (.bool (inB n 1 1000 && plainB s)) ∧ Below w.heap.size w w' := by
 have h_bare := as_text_bare (.agg #[.int .i64 k, .int .i64 n, .string s])
 have h_number := as_text_number (.agg #[.int .i64 k, .int .i64 n, .string s])
 have h_wait := as_text_wait (.agg #[.int .i64 k, .int .i64 n, .string s])
 have h_send := as_text_send (.agg #[.int .i64 k, .int .i64 n, .string s])
 have h_text := as_text_text (.agg #[.int .i64 k, .int .i64 n, .string s])
 go_enter Tryz.func291, Tryz.ntmps291
 go_wp2_with (first | (go_at_call 164; refine (isNumber_any _ _).mono ?_; rintro e w' ⟨rfl, rfl⟩) | (go_at_call 292; refine (isPatience_any _ _).mono ?_; rintro e w' ⟨rfl, rfl⟩) | (go_at_call 285; refine (isPlain_any _ _ hs).mono ?_; rintro e w' ⟨rfl, rfl⟩))
 all_goals go_ret
 all_goals exact ⟨ret_bool (by simp_all), by go_grown⟩
end Go.Proofs.YtkbcplnlehdjfaaGreat

/- What the drawn laws' proofs share: the bytes that came in. -/
namespace Go.Proofs.YtkbcplnlehdjfaaGreat
open Go.ChangeShapes Go.WideShapes Go.ChangeAt Go.RowKit
theorem Tryz.own : ownKnob Tryz.prog.godebug = none := by kernel_rfl
theorem Tryz.laidOut : laidOutB Tryz.prog = true := by kernel_rfl
theorem bytes_of {w : World} {x : Addr} {len cap : Nat} {zs : List Int} (hl : len ≤ cap) (hz : zs.length = cap) (hcell : ∀ i, i < zs.length → w.cell? (x.add i) = some (.int .u8 (zs.getD i 0))) (hwz : ∀ n ∈ zs, (Lit.int .u8 n).wf = true) : Bytes w (some x) len := by
 rcases Nat.eq_zero_or_pos len with h0 | h0
 ·exact .inl h0
 obtain ⟨b, off, spot⟩ := x
 have hc := hcell 0 (by omega)
 have hspot : spot = none := by simpa [Addr.add] using World.cell?_spot hc
 subst hspot
 refine .inr ⟨b, off, rfl, fun i hi => ?_⟩
 have h1 := hcell i (by omega)
 have hadd : (⟨b, off, none⟩ : Addr).add i = ⟨b, off + i, none⟩ := by unfold Addr.add; split <;> simp_all
 rw [hadd] at h1
 have hm : zs.getD i 0 ∈ zs := by
  rw [List.getD_eq_getElem?_getD, List.getElem?_eq_getElem (by omega : i < zs.length)]
  exact List.getElem_mem _
 have h2 := hwz _ hm
 refine ⟨_, h1, ?_, ?_⟩
 ·simp only [Lit.wf, Bool.and_eq_true, decide_eq_true_eq] at h2; exact h2.1
 ·simp only [Lit.wf, Bool.and_eq_true, decide_eq_true_eq] at h2; exact h2.2
end Go.Proofs.YtkbcplnlehdjfaaGreat

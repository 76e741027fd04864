/- The exact law of OpOk, called at any op: true, and nothing that was there is changed. -/
import Derived.Test.YticpedhfclkjcafOpOk
namespace Go.Proofs.Yticpedhfclkjcaf
open Go.RowKit

set_option maxHeartbeats 1000000 in
theorem szOp_any (k n m : Int) (s : ByteArray) (left : Int) (w : World) (hl : s.size ≤ maxLen) (h0 : 0 ≤ left) (h1 : left ≤ 1048576) :
    Calls Try.prog 16 #[.agg #[.int .i64 k, .int .i64 n, .int .i64 m, .string s], .int .i64 left] w fun e w' => e = .returned (.int .i64 (szOf left s.size)) ∧ Below w.heap.size w w' := by
  unfold maxLen at hl
  by_cases h : left < s.size
  · have h' : left - (s.size : Int) < 0 := by omega
    go_enter Try.func16, Try.ntmps16
    go_wp2
    go_ret
    exact ⟨ret_int (szOf_neg h).symm, by go_grown⟩
  · have h' : ¬ left - (s.size : Int) < 0 := by omega
    go_enter Try.func16, Try.ntmps16
    go_wp2
    go_ret
    exact ⟨ret_int (szOf_pos (by omega)).symm, by go_grown⟩

set_option maxHeartbeats 1000000 in
theorem toOp_any (k n m : Int) (s : ByteArray) (w : World) :
    Calls Try.prog 18 #[.agg #[.int .i64 k, .int .i64 n, .int .i64 m, .string s]] w fun e w' => e = .returned (.agg #[.int .i64 k, .int .i64 n, .int .i64 m, .string s]) ∧ Below w.heap.size w w' := by
  go_enter Try.func18, Try.ntmps18
  go_wp2
  exact bodyPost_ret (v := .agg #[.int .i64 k, .int .i64 n, .int .i64 m, .string s]) (by simp [results, Try.results18, go_sem]) rfl ⟨rfl, by go_grown⟩

/-- The op that came in, where the law keeps it. -/
structure OpArg (w wr : World) (k n m : Int) (s : ByteArray) : Prop where
  bel : Below w.heap.size w wr
  lt : w.heap.size < wr.heap.size
  c0 : wr.cell? ⟨w.heap.size, 0, none⟩ = some (.int .i64 k)
  c1 : wr.cell? ⟨w.heap.size, 1, none⟩ = some (.int .i64 n)
  c2 : wr.cell? ⟨w.heap.size, 2, none⟩ = some (.int .i64 m)
  c3 : wr.cell? ⟨w.heap.size, 3, none⟩ = some (.string s)
theorem OpArg.start (w : World) (k n m : Int) (s : ByteArray) (t : TypeId) : OpArg w (w.alloc (.cells #[.int .i64 k, .int .i64 n, .int .i64 m, .string s] t)) k n m s :=
  ⟨(Below.refl _ _).alloc (Nat.le_refl _) _, by simp, by simp, by simp, by simp, by simp⟩
theorem OpArg.below {w wr w' : World} {k n m : Int} {s : ByteArray} (h : OpArg w wr k n m s) (hb : Below wr.heap.size wr w') : OpArg w w' k n m s :=
  ⟨h.bel.trans (hb.mono h.bel.size), Nat.lt_of_lt_of_le h.lt hb.size, (hb.cell (p := ⟨w.heap.size, 0, none⟩) h.lt).trans h.c0, (hb.cell (p := ⟨w.heap.size, 1, none⟩) h.lt).trans h.c1, (hb.cell (p := ⟨w.heap.size, 2, none⟩) h.lt).trans h.c2, (hb.cell (p := ⟨w.heap.size, 3, none⟩) h.lt).trans h.c3⟩

set_option maxHeartbeats 1000000 in
theorem opOkLaw_any (k n m : Int) (s : ByteArray) (w : World) (hl : s.size ≤ maxLen) :
    Calls Try.prog 6 #[.agg #[.int .i64 k, .int .i64 n, .int .i64 m, .string s]] w fun e w' => e = .returned (.bool true) ∧ Below w.heap.size w w' := by
  by_cases h : (1048576 : Int) < s.size
  · have hsz : szOf 1048576 s.size = -1 := szOf_neg h
    go_enter Try.func6, Try.ntmps6
    go_wp2_with fail
    refine (szOp_any k n m s 1048576 _ hl (by omega) (by omega)).mono ?_
    rintro e w1 ⟨rfl, hb1⟩
    have HA1 : Hid (OpArg w w1 k n m s) := (OpArg.start w k n m s _).below hb1
    have a1 := HA1.out.c0
    have b1 := HA1.out.c1
    have c1 := HA1.out.c2
    have d1 := HA1.out.c3
    clear hb1
    rw [hsz]
    go_wp2
    go_ret
    exact ⟨rfl, HA1.out.bel⟩
  · have hsz : szOf 1048576 s.size = 1048576 - s.size := szOf_pos (by omega)
    have hnn : ¬ (1048576 : Int) - s.size < 0 := by omega
    go_enter Try.func6, Try.ntmps6
    go_wp2_with fail
    refine (szOp_any k n m s 1048576 _ hl (by omega) (by omega)).mono ?_
    rintro e w1 ⟨rfl, hb1⟩
    have HA1 : Hid (OpArg w w1 k n m s) := (OpArg.start w k n m s _).below hb1
    have a1 := HA1.out.c0
    have b1 := HA1.out.c1
    have c1 := HA1.out.c2
    have d1 := HA1.out.c3
    clear hb1
    rw [hsz]
    clear hsz
    go_wp2_with fail
    refine (toOp_any k n m s _).mono ?_
    rintro e w2 ⟨rfl, hb2⟩
    have HA2 : Hid (OpArg w w2 k n m s) := HA1.out.below hb2
    have a2 := HA2.out.c0
    have b2 := HA2.out.c1
    have c2 := HA2.out.c2
    have d2 := HA2.out.c3
    clear hb2
    clear HA1 a1 b1 c1 d1
    go_wp2_with fail
    refine (specOpOk_any k n m s _ (by omega)).mono ?_
    rintro e w3 ⟨rfl, hb3⟩
    have HA3 : Hid (OpArg w w3 k n m s) := HA2.out.below hb3
    have a3 := HA3.out.c0
    have b3 := HA3.out.c1
    have c3 := HA3.out.c2
    have d3 := HA3.out.c3
    clear hb3
    clear HA2 a2 b2 c2 d2
    go_wp2_with fail
    refine (toOp_any k n m s _).mono ?_
    rintro e w4 ⟨rfl, hb4⟩
    have HA4 : Hid (OpArg w w4 k n m s) := HA3.out.below hb4
    have a4 := HA4.out.c0
    have b4 := HA4.out.c1
    have c4 := HA4.out.c2
    have d4 := HA4.out.c3
    clear hb4
    clear HA3 a3 b3 c3 d3
    go_wp2_with fail
    refine (implOpOk_any k n m s _ (by omega)).mono ?_
    rintro e w5 ⟨rfl, hb5⟩
    have HA5 : Hid (OpArg w w5 k n m s) := HA4.out.below hb5
    have a5 := HA5.out.c0
    have b5 := HA5.out.c1
    have c5 := HA5.out.c2
    have d5 := HA5.out.c3
    clear hb5
    go_wp2
    go_ret
    exact ⟨rfl, HA5.out.bel⟩

end Go.Proofs.Yticpedhfclkjcaf

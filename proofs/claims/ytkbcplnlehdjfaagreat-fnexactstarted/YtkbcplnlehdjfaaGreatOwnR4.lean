/- What the proof leans on, part 4: OpOk, ProgSpec, ProgL, KdProc0, OpenB, KdBuffer. -/
import Derived.Deep.RegionWith
import Derived.Test.YtkbcplnlehdjfaaGreatOwnR0
import Derived.Test.YtkbcplnlehdjfaaGreatOwnR1
import Derived.Test.YtkbcplnlehdjfaaGreatOwnR2
import Derived.Test.YtkbcplnlehdjfaaGreatOwnR3

namespace Go.Proofs.YtkbcplnlehdjfaaGreat
open Go.RowKit
attribute [local go_sem ↓] Go.wp_at_zero Go.wp_at_succ
theorem cells_below {w w1 : World} {cs : Array Value} {t : TypeId} (h : Below (w.alloc (.cells cs t)).heap.size (w.alloc (.cells cs t)) w1) (i : Nat) : w1.cell? ⟨w.heap.size, i, none⟩ = cs[i]? :=
  (h.cell (p := ⟨w.heap.size, i, none⟩) (by simp)).trans (by simp)
theorem below_undrew {B : Nat} {w w' : World} (h : Below B w.drew w') : Below B w w' := ⟨h.os, h.tape, h.output, h.size, h.block⟩
theorem below_drewN {B : Nat} {w w' : World} (h : Below B w w') (n : Nat) : Below B w (w'.drewN n) := ⟨h.os, h.tape, h.output, h.size, h.block⟩
theorem opB_num {k n m : Int} {s : ByteArray} (h : isNum k) : opB k n m s = (inB n 1 1000 && decide (m = 0) && emptyB s) := by
  unfold isNum at h
  unfold opB
  rw [if_pos h]
theorem opB_wait {k n m : Int} {s : ByteArray} (h : isWait k) : opB k n m s = (inB n 1 1000 && inB m (-1) 1000 && emptyB s) := by
  unfold isWait at h
  unfold opB
  rw [if_neg (by omega), if_pos h]
theorem opB_send {k n m : Int} {s : ByteArray} (h : k = 8) : opB k n m s = (inB n 1 1000 && inB m (-1) 1000 && plainB s) := by
  unfold opB
  rw [if_neg (by omega), if_neg (by omega), if_pos h]
theorem opB_text {k n m : Int} {s : ByteArray} (h : isText k) : opB k n m s = (inB n 1 1000 && decide (m = 0) && plainB s) := by
  unfold isText at h
  unfold opB
  rw [if_neg (by omega), if_neg (by omega), if_neg (by omega), if_pos h]
theorem opB_loop {k n m : Int} {s : ByteArray} (h : k = 17) : opB k n m s = (decide (n = 0) && decide (m = 0) && emptyB s) := by
  unfold opB
  rw [if_neg (by omega), if_neg (by omega), if_neg (by omega), if_neg (by omega), if_pos h]
set_option maxHeartbeats 4000000 in
theorem implOp_num (k n m : Int) (s : ByteArray) (w : World) (hk : isNum k) :
    Calls Tryz.prog 287 #[.agg #[.int .i64 k, .int .i64 n, .int .i64 m, .string s]] w fun e w' => e = .returned (.bool (opB k n m s)) ∧ Below w.heap.size w w' := by
  have HO : Hid (opB k n m s = (inB n 1 1000 && decide (m = 0) && emptyB s)) := opB_num hk
  have HK : Hid (isNum k) := hk
  clear hk
  go_enter Tryz.func287, Tryz.ntmps287
  go_wp2_with fail
  refine (formOf_num k n m s _ HK.out).mono ?_
  rintro e w1 ⟨rfl, hb1⟩
  have c0 : w1.cell? ⟨w.heap.size, 0, none⟩ = some (.int .i64 k) := cells_below hb1 0
  have c1 : w1.cell? ⟨w.heap.size, 1, none⟩ = some (.int .i64 n) := cells_below hb1 1
  have c2 : w1.cell? ⟨w.heap.size, 2, none⟩ = some (.int .i64 m) := cells_below hb1 2
  have c3 : w1.cell? ⟨w.heap.size, 3, none⟩ = some (.string s) := cells_below hb1 3
  have HB1 : Hid (Below w.heap.size w w1) := ((Below.refl _ _).alloc (Nat.le_refl _) _).trans (hb1.mono (by simp))
  have HS1 : Hid (w.heap.size < w1.heap.size) := by have := hb1.size; simp only [World.size_alloc] at this; exact this
  clear hb1
  by_cases hm : m = 0
  rotate_left
  · have hm' : ¬ 0 = m := fun h => hm h.symm
    go_wp2_with fail
    first
      | (go_region_with
      ((first
        | (go_at_call 316
           refine (asOp_number _ _ _).mono ?_
           rintro e w2 ⟨rfl, hb2⟩
           have hb2 : Below w1.heap.size w1 w2 := below_undrew hb2
           have HB2 : Hid (Below w.heap.size w w2) := HB1.out.trans (hb2.mono (by have := HS1.out; show w.heap.size ≤ w1.heap.size; omega))
           have HS2 : Hid (w.heap.size < w2.heap.size) := by have h1 := HS1.out; have h2 : w1.heap.size ≤ w2.heap.size := hb2.size; exact Nat.lt_of_lt_of_le h1 h2
           have d0 : w2.cell? ⟨w.heap.size, 0, none⟩ = some (.int .i64 k) := (hb2.cell (p := ⟨w.heap.size, 0, none⟩) HS1.out).trans c0
           have d1 : w2.cell? ⟨w.heap.size, 1, none⟩ = some (.int .i64 n) := (hb2.cell (p := ⟨w.heap.size, 1, none⟩) HS1.out).trans c1
           have d2 : w2.cell? ⟨w.heap.size, 2, none⟩ = some (.int .i64 m) := (hb2.cell (p := ⟨w.heap.size, 2, none⟩) HS1.out).trans c2
           have d3 : w2.cell? ⟨w.heap.size, 3, none⟩ = some (.string s) := (hb2.cell (p := ⟨w.heap.size, 3, none⟩) HS1.out).trans c3
           clear hb2)
        | (go_at_call 291
           refine (formOk_number _ _ _).mono ?_
           rintro e w3 ⟨rfl, hb3⟩
           have HB3 : Hid (Below w.heap.size w w3) := HB2.out.trans (hb3.mono (by have := HS2.out; omega))
           have f0 : w3.cell? ⟨w.heap.size, 0, none⟩ = some (.int .i64 k) := (hb3.cell (p := ⟨w.heap.size, 0, none⟩) HS2.out).trans d0
           have f1 : w3.cell? ⟨w.heap.size, 1, none⟩ = some (.int .i64 n) := (hb3.cell (p := ⟨w.heap.size, 1, none⟩) HS2.out).trans d1
           have f2 : w3.cell? ⟨w.heap.size, 2, none⟩ = some (.int .i64 m) := (hb3.cell (p := ⟨w.heap.size, 2, none⟩) HS2.out).trans d2
           have f3 : w3.cell? ⟨w.heap.size, 3, none⟩ = some (.string s) := (hb3.cell (p := ⟨w.heap.size, 3, none⟩) HS2.out).trans d3
           clear hb3))))
      | (exact absurd rfl (by assumption))
    all_goals go_wp2
    all_goals go_ret
    all_goals exact ⟨ret_bool (by rw [HO.out]; simp [hm]), HB2.out⟩
  subst hm
  by_cases hes : s.toList = []
  rotate_left
  · have hes' : ¬ [] = s.toList := fun h => hes h.symm
    have hem : emptyB s = false := by simp [emptyB, hes]
    go_wp2_with fail
    first
      | (go_region_with
      ((first
        | (go_at_call 316
           refine (asOp_number _ _ _).mono ?_
           rintro e w2 ⟨rfl, hb2⟩
           have hb2 : Below w1.heap.size w1 w2 := below_undrew hb2
           have HB2 : Hid (Below w.heap.size w w2) := HB1.out.trans (hb2.mono (by have := HS1.out; show w.heap.size ≤ w1.heap.size; omega))
           have HS2 : Hid (w.heap.size < w2.heap.size) := by have h1 := HS1.out; have h2 : w1.heap.size ≤ w2.heap.size := hb2.size; exact Nat.lt_of_lt_of_le h1 h2
           have d0 : w2.cell? ⟨w.heap.size, 0, none⟩ = some (.int .i64 k) := (hb2.cell (p := ⟨w.heap.size, 0, none⟩) HS1.out).trans c0
           have d1 : w2.cell? ⟨w.heap.size, 1, none⟩ = some (.int .i64 n) := (hb2.cell (p := ⟨w.heap.size, 1, none⟩) HS1.out).trans c1
           have d2 : w2.cell? ⟨w.heap.size, 2, none⟩ = some (.int .i64 0) := (hb2.cell (p := ⟨w.heap.size, 2, none⟩) HS1.out).trans c2
           have d3 : w2.cell? ⟨w.heap.size, 3, none⟩ = some (.string s) := (hb2.cell (p := ⟨w.heap.size, 3, none⟩) HS1.out).trans c3
           clear hb2)
        | (go_at_call 291
           refine (formOk_number _ _ _).mono ?_
           rintro e w3 ⟨rfl, hb3⟩
           have HB3 : Hid (Below w.heap.size w w3) := HB2.out.trans (hb3.mono (by have := HS2.out; omega))
           have f0 : w3.cell? ⟨w.heap.size, 0, none⟩ = some (.int .i64 k) := (hb3.cell (p := ⟨w.heap.size, 0, none⟩) HS2.out).trans d0
           have f1 : w3.cell? ⟨w.heap.size, 1, none⟩ = some (.int .i64 n) := (hb3.cell (p := ⟨w.heap.size, 1, none⟩) HS2.out).trans d1
           have f2 : w3.cell? ⟨w.heap.size, 2, none⟩ = some (.int .i64 0) := (hb3.cell (p := ⟨w.heap.size, 2, none⟩) HS2.out).trans d2
           have f3 : w3.cell? ⟨w.heap.size, 3, none⟩ = some (.string s) := (hb3.cell (p := ⟨w.heap.size, 3, none⟩) HS2.out).trans d3
           clear hb3))))
      | (exact absurd rfl (by assumption))
    all_goals go_wp2
    all_goals go_ret
    all_goals exact ⟨ret_bool (by rw [HO.out]; simp [hem]), HB2.out⟩
  have hem : emptyB s = true := by simp [emptyB, hes]
  go_wp2_with fail
  first
    | (go_region_with
    ((first
      | (go_at_call 316
         refine (asOp_number _ _ _).mono ?_
         rintro e w2 ⟨rfl, hb2⟩
         have hb2 : Below w1.heap.size w1 w2 := below_undrew hb2
         have HB2 : Hid (Below w.heap.size w w2) := HB1.out.trans (hb2.mono (by have := HS1.out; show w.heap.size ≤ w1.heap.size; omega))
         have HS2 : Hid (w.heap.size < w2.heap.size) := by have h1 := HS1.out; have h2 : w1.heap.size ≤ w2.heap.size := hb2.size; exact Nat.lt_of_lt_of_le h1 h2
         have d0 : w2.cell? ⟨w.heap.size, 0, none⟩ = some (.int .i64 k) := (hb2.cell (p := ⟨w.heap.size, 0, none⟩) HS1.out).trans c0
         have d1 : w2.cell? ⟨w.heap.size, 1, none⟩ = some (.int .i64 n) := (hb2.cell (p := ⟨w.heap.size, 1, none⟩) HS1.out).trans c1
         have d2 : w2.cell? ⟨w.heap.size, 2, none⟩ = some (.int .i64 0) := (hb2.cell (p := ⟨w.heap.size, 2, none⟩) HS1.out).trans c2
         have d3 : w2.cell? ⟨w.heap.size, 3, none⟩ = some (.string s) := (hb2.cell (p := ⟨w.heap.size, 3, none⟩) HS1.out).trans c3
         clear hb2)
      | (go_at_call 291
         refine (formOk_number _ _ _).mono ?_
         rintro e w3 ⟨rfl, hb3⟩
         have HB3 : Hid (Below w.heap.size w w3) := HB2.out.trans (hb3.mono (by have := HS2.out; omega))
         have f0 : w3.cell? ⟨w.heap.size, 0, none⟩ = some (.int .i64 k) := (hb3.cell (p := ⟨w.heap.size, 0, none⟩) HS2.out).trans d0
         have f1 : w3.cell? ⟨w.heap.size, 1, none⟩ = some (.int .i64 n) := (hb3.cell (p := ⟨w.heap.size, 1, none⟩) HS2.out).trans d1
         have f2 : w3.cell? ⟨w.heap.size, 2, none⟩ = some (.int .i64 0) := (hb3.cell (p := ⟨w.heap.size, 2, none⟩) HS2.out).trans d2
         have f3 : w3.cell? ⟨w.heap.size, 3, none⟩ = some (.string s) := (hb3.cell (p := ⟨w.heap.size, 3, none⟩) HS2.out).trans d3
         clear hb3))))
    | (exact absurd rfl (by assumption))
  all_goals go_wp2
  all_goals go_ret
  all_goals exact ⟨ret_bool (by rw [HO.out]; simp_all), HB3.out⟩
set_option maxHeartbeats 4000000 in
theorem implOp_wait (k n m : Int) (s : ByteArray) (w : World) (hk : isWait k) :
    Calls Tryz.prog 287 #[.agg #[.int .i64 k, .int .i64 n, .int .i64 m, .string s]] w fun e w' => e = .returned (.bool (opB k n m s)) ∧ Below w.heap.size w w' := by
  have HO : Hid (opB k n m s = (inB n 1 1000 && inB m (-1) 1000 && emptyB s)) := opB_wait hk
  have HK : Hid (isWait k) := hk
  clear hk
  go_enter Tryz.func287, Tryz.ntmps287
  go_wp2_with fail
  refine (formOf_wait k n m s _ HK.out).mono ?_
  rintro e w1 ⟨rfl, hb1⟩
  have c0 : w1.cell? ⟨w.heap.size, 0, none⟩ = some (.int .i64 k) := cells_below hb1 0
  have c1 : w1.cell? ⟨w.heap.size, 1, none⟩ = some (.int .i64 n) := cells_below hb1 1
  have c2 : w1.cell? ⟨w.heap.size, 2, none⟩ = some (.int .i64 m) := cells_below hb1 2
  have c3 : w1.cell? ⟨w.heap.size, 3, none⟩ = some (.string s) := cells_below hb1 3
  have HB1 : Hid (Below w.heap.size w w1) := ((Below.refl _ _).alloc (Nat.le_refl _) _).trans (hb1.mono (by simp))
  have HS1 : Hid (w.heap.size < w1.heap.size) := by have := hb1.size; simp only [World.size_alloc] at this; exact this
  clear hb1
  by_cases hes : s.toList = []
  rotate_left
  · have hes' : ¬ [] = s.toList := fun h => hes h.symm
    have hem : emptyB s = false := by simp [emptyB, hes]
    go_wp2_with fail
    first
      | (go_region_with
      ((first
        | (go_at_call 317
           refine (asOp_wait _ _ _ _).mono ?_
           rintro e w2 ⟨rfl, hb2⟩
           have hb2 : Below w1.heap.size w1 w2 := below_undrew hb2
           have HB2 : Hid (Below w.heap.size w w2) := HB1.out.trans (hb2.mono (by have := HS1.out; show w.heap.size ≤ w1.heap.size; omega))
           have HS2 : Hid (w.heap.size < w2.heap.size) := by have h1 := HS1.out; have h2 : w1.heap.size ≤ w2.heap.size := hb2.size; exact Nat.lt_of_lt_of_le h1 h2
           have d0 : w2.cell? ⟨w.heap.size, 0, none⟩ = some (.int .i64 k) := (hb2.cell (p := ⟨w.heap.size, 0, none⟩) HS1.out).trans c0
           have d1 : w2.cell? ⟨w.heap.size, 1, none⟩ = some (.int .i64 n) := (hb2.cell (p := ⟨w.heap.size, 1, none⟩) HS1.out).trans c1
           have d2 : w2.cell? ⟨w.heap.size, 2, none⟩ = some (.int .i64 m) := (hb2.cell (p := ⟨w.heap.size, 2, none⟩) HS1.out).trans c2
           have d3 : w2.cell? ⟨w.heap.size, 3, none⟩ = some (.string s) := (hb2.cell (p := ⟨w.heap.size, 3, none⟩) HS1.out).trans c3
           clear hb2)
        | (go_at_call 291
           refine (formOk_wait _ _ _ _).mono ?_
           rintro e w3 ⟨rfl, hb3⟩
           have HB3 : Hid (Below w.heap.size w w3) := HB2.out.trans (hb3.mono (by have := HS2.out; omega))
           have f0 : w3.cell? ⟨w.heap.size, 0, none⟩ = some (.int .i64 k) := (hb3.cell (p := ⟨w.heap.size, 0, none⟩) HS2.out).trans d0
           have f1 : w3.cell? ⟨w.heap.size, 1, none⟩ = some (.int .i64 n) := (hb3.cell (p := ⟨w.heap.size, 1, none⟩) HS2.out).trans d1
           have f2 : w3.cell? ⟨w.heap.size, 2, none⟩ = some (.int .i64 m) := (hb3.cell (p := ⟨w.heap.size, 2, none⟩) HS2.out).trans d2
           have f3 : w3.cell? ⟨w.heap.size, 3, none⟩ = some (.string s) := (hb3.cell (p := ⟨w.heap.size, 3, none⟩) HS2.out).trans d3
           clear hb3))))
      | (exact absurd rfl (by assumption))
    all_goals go_wp2
    all_goals go_ret
    all_goals exact ⟨ret_bool (by rw [HO.out]; simp [hem]), HB2.out⟩
  have hem : emptyB s = true := by simp [emptyB, hes]
  go_wp2_with fail
  first
    | (go_region_with
    ((first
      | (go_at_call 317
         refine (asOp_wait _ _ _ _).mono ?_
         rintro e w2 ⟨rfl, hb2⟩
         have hb2 : Below w1.heap.size w1 w2 := below_undrew hb2
         have HB2 : Hid (Below w.heap.size w w2) := HB1.out.trans (hb2.mono (by have := HS1.out; show w.heap.size ≤ w1.heap.size; omega))
         have HS2 : Hid (w.heap.size < w2.heap.size) := by have h1 := HS1.out; have h2 : w1.heap.size ≤ w2.heap.size := hb2.size; exact Nat.lt_of_lt_of_le h1 h2
         have d0 : w2.cell? ⟨w.heap.size, 0, none⟩ = some (.int .i64 k) := (hb2.cell (p := ⟨w.heap.size, 0, none⟩) HS1.out).trans c0
         have d1 : w2.cell? ⟨w.heap.size, 1, none⟩ = some (.int .i64 n) := (hb2.cell (p := ⟨w.heap.size, 1, none⟩) HS1.out).trans c1
         have d2 : w2.cell? ⟨w.heap.size, 2, none⟩ = some (.int .i64 m) := (hb2.cell (p := ⟨w.heap.size, 2, none⟩) HS1.out).trans c2
         have d3 : w2.cell? ⟨w.heap.size, 3, none⟩ = some (.string s) := (hb2.cell (p := ⟨w.heap.size, 3, none⟩) HS1.out).trans c3
         clear hb2)
      | (go_at_call 291
         refine (formOk_wait _ _ _ _).mono ?_
         rintro e w3 ⟨rfl, hb3⟩
         have HB3 : Hid (Below w.heap.size w w3) := HB2.out.trans (hb3.mono (by have := HS2.out; omega))
         have f0 : w3.cell? ⟨w.heap.size, 0, none⟩ = some (.int .i64 k) := (hb3.cell (p := ⟨w.heap.size, 0, none⟩) HS2.out).trans d0
         have f1 : w3.cell? ⟨w.heap.size, 1, none⟩ = some (.int .i64 n) := (hb3.cell (p := ⟨w.heap.size, 1, none⟩) HS2.out).trans d1
         have f2 : w3.cell? ⟨w.heap.size, 2, none⟩ = some (.int .i64 m) := (hb3.cell (p := ⟨w.heap.size, 2, none⟩) HS2.out).trans d2
         have f3 : w3.cell? ⟨w.heap.size, 3, none⟩ = some (.string s) := (hb3.cell (p := ⟨w.heap.size, 3, none⟩) HS2.out).trans d3
         clear hb3))))
    | (exact absurd rfl (by assumption))
  all_goals go_wp2
  all_goals go_ret
  all_goals exact ⟨ret_bool (by rw [HO.out]; simp_all), HB3.out⟩
set_option maxHeartbeats 4000000 in
theorem implOp_send (k n m : Int) (s : ByteArray) (w : World) (hs : s.size ≤ 1048576) (hk : k = 8) :
    Calls Tryz.prog 287 #[.agg #[.int .i64 k, .int .i64 n, .int .i64 m, .string s]] w fun e w' => e = .returned (.bool (opB k n m s)) ∧ Below w.heap.size w w' := by
  have HO : Hid (opB k n m s = (inB n 1 1000 && inB m (-1) 1000 && plainB s)) := opB_send hk
  have HK : Hid (k = 8) := hk
  clear hk
  go_enter Tryz.func287, Tryz.ntmps287
  go_wp2_with fail
  refine (formOf_send k n m s _ HK.out).mono ?_
  rintro e w1 ⟨rfl, hb1⟩
  have c0 : w1.cell? ⟨w.heap.size, 0, none⟩ = some (.int .i64 k) := cells_below hb1 0
  have c1 : w1.cell? ⟨w.heap.size, 1, none⟩ = some (.int .i64 n) := cells_below hb1 1
  have c2 : w1.cell? ⟨w.heap.size, 2, none⟩ = some (.int .i64 m) := cells_below hb1 2
  have c3 : w1.cell? ⟨w.heap.size, 3, none⟩ = some (.string s) := cells_below hb1 3
  have HB1 : Hid (Below w.heap.size w w1) := ((Below.refl _ _).alloc (Nat.le_refl _) _).trans (hb1.mono (by simp))
  have HS1 : Hid (w.heap.size < w1.heap.size) := by have := hb1.size; simp only [World.size_alloc] at this; exact this
  clear hb1
  go_wp2_with fail
  first
    | (go_region_with
    ((first
      | (go_at_call 318
         refine (asOp_send _ _ _ _ _).mono ?_
         rintro e w2 ⟨rfl, hb2⟩
         have hb2 : Below w1.heap.size w1 w2 := below_undrew hb2
         have HB2 : Hid (Below w.heap.size w w2) := HB1.out.trans (hb2.mono (by have := HS1.out; show w.heap.size ≤ w1.heap.size; omega))
         have HS2 : Hid (w.heap.size < w2.heap.size) := by have h1 := HS1.out; have h2 : w1.heap.size ≤ w2.heap.size := hb2.size; exact Nat.lt_of_lt_of_le h1 h2
         have d0 : w2.cell? ⟨w.heap.size, 0, none⟩ = some (.int .i64 k) := (hb2.cell (p := ⟨w.heap.size, 0, none⟩) HS1.out).trans c0
         have d1 : w2.cell? ⟨w.heap.size, 1, none⟩ = some (.int .i64 n) := (hb2.cell (p := ⟨w.heap.size, 1, none⟩) HS1.out).trans c1
         have d2 : w2.cell? ⟨w.heap.size, 2, none⟩ = some (.int .i64 m) := (hb2.cell (p := ⟨w.heap.size, 2, none⟩) HS1.out).trans c2
         have d3 : w2.cell? ⟨w.heap.size, 3, none⟩ = some (.string s) := (hb2.cell (p := ⟨w.heap.size, 3, none⟩) HS1.out).trans c3
         clear hb2)
      | (go_at_call 291
         refine (formOk_send _ _ _ _ _ hs).mono ?_
         rintro e w3 ⟨rfl, hb3⟩
         have HB3 : Hid (Below w.heap.size w w3) := HB2.out.trans (hb3.mono (by have := HS2.out; omega))
         have f0 : w3.cell? ⟨w.heap.size, 0, none⟩ = some (.int .i64 k) := (hb3.cell (p := ⟨w.heap.size, 0, none⟩) HS2.out).trans d0
         have f1 : w3.cell? ⟨w.heap.size, 1, none⟩ = some (.int .i64 n) := (hb3.cell (p := ⟨w.heap.size, 1, none⟩) HS2.out).trans d1
         have f2 : w3.cell? ⟨w.heap.size, 2, none⟩ = some (.int .i64 m) := (hb3.cell (p := ⟨w.heap.size, 2, none⟩) HS2.out).trans d2
         have f3 : w3.cell? ⟨w.heap.size, 3, none⟩ = some (.string s) := (hb3.cell (p := ⟨w.heap.size, 3, none⟩) HS2.out).trans d3
         clear hb3))))
    | (exact absurd rfl (by assumption))
  all_goals go_wp2
  all_goals go_ret
  all_goals exact ⟨ret_bool (by rw [HO.out]), HB3.out⟩
set_option maxHeartbeats 4000000 in
theorem implOp_text (k n m : Int) (s : ByteArray) (w : World) (hs : s.size ≤ 1048576) (hk : isText k) :
    Calls Tryz.prog 287 #[.agg #[.int .i64 k, .int .i64 n, .int .i64 m, .string s]] w fun e w' => e = .returned (.bool (opB k n m s)) ∧ Below w.heap.size w w' := by
  have HO : Hid (opB k n m s = (inB n 1 1000 && decide (m = 0) && plainB s)) := opB_text hk
  have HK : Hid (isText k) := hk
  clear hk
  go_enter Tryz.func287, Tryz.ntmps287
  go_wp2_with fail
  refine (formOf_text k n m s _ HK.out).mono ?_
  rintro e w1 ⟨rfl, hb1⟩
  have c0 : w1.cell? ⟨w.heap.size, 0, none⟩ = some (.int .i64 k) := cells_below hb1 0
  have c1 : w1.cell? ⟨w.heap.size, 1, none⟩ = some (.int .i64 n) := cells_below hb1 1
  have c2 : w1.cell? ⟨w.heap.size, 2, none⟩ = some (.int .i64 m) := cells_below hb1 2
  have c3 : w1.cell? ⟨w.heap.size, 3, none⟩ = some (.string s) := cells_below hb1 3
  have HB1 : Hid (Below w.heap.size w w1) := ((Below.refl _ _).alloc (Nat.le_refl _) _).trans (hb1.mono (by simp))
  have HS1 : Hid (w.heap.size < w1.heap.size) := by have := hb1.size; simp only [World.size_alloc] at this; exact this
  clear hb1
  by_cases hm : m = 0
  rotate_left
  · have hm' : ¬ 0 = m := fun h => hm h.symm
    go_wp2_with fail
    first
      | (go_region_with
      ((first
        | (go_at_call 319
           refine (asOp_text _ _ _ _).mono ?_
           rintro e w2 ⟨rfl, hb2⟩
           have hb2 : Below w1.heap.size w1 w2 := below_undrew hb2
           have HB2 : Hid (Below w.heap.size w w2) := HB1.out.trans (hb2.mono (by have := HS1.out; show w.heap.size ≤ w1.heap.size; omega))
           have HS2 : Hid (w.heap.size < w2.heap.size) := by have h1 := HS1.out; have h2 : w1.heap.size ≤ w2.heap.size := hb2.size; exact Nat.lt_of_lt_of_le h1 h2
           have d0 : w2.cell? ⟨w.heap.size, 0, none⟩ = some (.int .i64 k) := (hb2.cell (p := ⟨w.heap.size, 0, none⟩) HS1.out).trans c0
           have d1 : w2.cell? ⟨w.heap.size, 1, none⟩ = some (.int .i64 n) := (hb2.cell (p := ⟨w.heap.size, 1, none⟩) HS1.out).trans c1
           have d2 : w2.cell? ⟨w.heap.size, 2, none⟩ = some (.int .i64 m) := (hb2.cell (p := ⟨w.heap.size, 2, none⟩) HS1.out).trans c2
           have d3 : w2.cell? ⟨w.heap.size, 3, none⟩ = some (.string s) := (hb2.cell (p := ⟨w.heap.size, 3, none⟩) HS1.out).trans c3
           clear hb2)
        | (go_at_call 291
           refine (formOk_text _ _ _ _ hs).mono ?_
           rintro e w3 ⟨rfl, hb3⟩
           have HB3 : Hid (Below w.heap.size w w3) := HB2.out.trans (hb3.mono (by have := HS2.out; omega))
           have f0 : w3.cell? ⟨w.heap.size, 0, none⟩ = some (.int .i64 k) := (hb3.cell (p := ⟨w.heap.size, 0, none⟩) HS2.out).trans d0
           have f1 : w3.cell? ⟨w.heap.size, 1, none⟩ = some (.int .i64 n) := (hb3.cell (p := ⟨w.heap.size, 1, none⟩) HS2.out).trans d1
           have f2 : w3.cell? ⟨w.heap.size, 2, none⟩ = some (.int .i64 m) := (hb3.cell (p := ⟨w.heap.size, 2, none⟩) HS2.out).trans d2
           have f3 : w3.cell? ⟨w.heap.size, 3, none⟩ = some (.string s) := (hb3.cell (p := ⟨w.heap.size, 3, none⟩) HS2.out).trans d3
           clear hb3))))
      | (exact absurd rfl (by assumption))
    all_goals go_wp2
    all_goals go_ret
    all_goals exact ⟨ret_bool (by rw [HO.out]; simp [hm]), HB2.out⟩
  subst hm
  go_wp2_with fail
  first
    | (go_region_with
    ((first
      | (go_at_call 319
         refine (asOp_text _ _ _ _).mono ?_
         rintro e w2 ⟨rfl, hb2⟩
         have hb2 : Below w1.heap.size w1 w2 := below_undrew hb2
         have HB2 : Hid (Below w.heap.size w w2) := HB1.out.trans (hb2.mono (by have := HS1.out; show w.heap.size ≤ w1.heap.size; omega))
         have HS2 : Hid (w.heap.size < w2.heap.size) := by have h1 := HS1.out; have h2 : w1.heap.size ≤ w2.heap.size := hb2.size; exact Nat.lt_of_lt_of_le h1 h2
         have d0 : w2.cell? ⟨w.heap.size, 0, none⟩ = some (.int .i64 k) := (hb2.cell (p := ⟨w.heap.size, 0, none⟩) HS1.out).trans c0
         have d1 : w2.cell? ⟨w.heap.size, 1, none⟩ = some (.int .i64 n) := (hb2.cell (p := ⟨w.heap.size, 1, none⟩) HS1.out).trans c1
         have d2 : w2.cell? ⟨w.heap.size, 2, none⟩ = some (.int .i64 0) := (hb2.cell (p := ⟨w.heap.size, 2, none⟩) HS1.out).trans c2
         have d3 : w2.cell? ⟨w.heap.size, 3, none⟩ = some (.string s) := (hb2.cell (p := ⟨w.heap.size, 3, none⟩) HS1.out).trans c3
         clear hb2)
      | (go_at_call 291
         refine (formOk_text _ _ _ _ hs).mono ?_
         rintro e w3 ⟨rfl, hb3⟩
         have HB3 : Hid (Below w.heap.size w w3) := HB2.out.trans (hb3.mono (by have := HS2.out; omega))
         have f0 : w3.cell? ⟨w.heap.size, 0, none⟩ = some (.int .i64 k) := (hb3.cell (p := ⟨w.heap.size, 0, none⟩) HS2.out).trans d0
         have f1 : w3.cell? ⟨w.heap.size, 1, none⟩ = some (.int .i64 n) := (hb3.cell (p := ⟨w.heap.size, 1, none⟩) HS2.out).trans d1
         have f2 : w3.cell? ⟨w.heap.size, 2, none⟩ = some (.int .i64 0) := (hb3.cell (p := ⟨w.heap.size, 2, none⟩) HS2.out).trans d2
         have f3 : w3.cell? ⟨w.heap.size, 3, none⟩ = some (.string s) := (hb3.cell (p := ⟨w.heap.size, 3, none⟩) HS2.out).trans d3
         clear hb3))))
    | (exact absurd rfl (by assumption))
  all_goals go_wp2
  all_goals go_ret
  all_goals exact ⟨ret_bool (by rw [HO.out]; simp_all), HB3.out⟩
set_option maxHeartbeats 4000000 in
theorem implOp_loop (k n m : Int) (s : ByteArray) (w : World) (hk : k = 17) :
    Calls Tryz.prog 287 #[.agg #[.int .i64 k, .int .i64 n, .int .i64 m, .string s]] w fun e w' => e = .returned (.bool (opB k n m s)) ∧ Below w.heap.size w w' := by
  have HO : Hid (opB k n m s = (decide (n = 0) && decide (m = 0) && emptyB s)) := opB_loop hk
  have HK : Hid (k = 17) := hk
  clear hk
  go_enter Tryz.func287, Tryz.ntmps287
  go_wp2_with fail
  refine (formOf_loop k n m s _ HK.out).mono ?_
  rintro e w1 ⟨rfl, hb1⟩
  have c0 : w1.cell? ⟨w.heap.size, 0, none⟩ = some (.int .i64 k) := cells_below hb1 0
  have c1 : w1.cell? ⟨w.heap.size, 1, none⟩ = some (.int .i64 n) := cells_below hb1 1
  have c2 : w1.cell? ⟨w.heap.size, 2, none⟩ = some (.int .i64 m) := cells_below hb1 2
  have c3 : w1.cell? ⟨w.heap.size, 3, none⟩ = some (.string s) := cells_below hb1 3
  have HB1 : Hid (Below w.heap.size w w1) := ((Below.refl _ _).alloc (Nat.le_refl _) _).trans (hb1.mono (by simp))
  have HS1 : Hid (w.heap.size < w1.heap.size) := by have := hb1.size; simp only [World.size_alloc] at this; exact this
  clear hb1
  by_cases hn : n = 0
  rotate_left
  · have hn' : ¬ 0 = n := fun h => hn h.symm
    go_wp2_with fail
    first
      | (go_region_with
      ((first
        | (go_at_call 320
           refine (asOp_bare _ _).mono ?_
           rintro e w2 ⟨rfl, hb2⟩
           have hb2 : Below w1.heap.size w1 w2 := below_undrew hb2
           have HB2 : Hid (Below w.heap.size w w2) := HB1.out.trans (hb2.mono (by have := HS1.out; show w.heap.size ≤ w1.heap.size; omega))
           have HS2 : Hid (w.heap.size < w2.heap.size) := by have h1 := HS1.out; have h2 : w1.heap.size ≤ w2.heap.size := hb2.size; exact Nat.lt_of_lt_of_le h1 h2
           have d0 : w2.cell? ⟨w.heap.size, 0, none⟩ = some (.int .i64 k) := (hb2.cell (p := ⟨w.heap.size, 0, none⟩) HS1.out).trans c0
           have d1 : w2.cell? ⟨w.heap.size, 1, none⟩ = some (.int .i64 n) := (hb2.cell (p := ⟨w.heap.size, 1, none⟩) HS1.out).trans c1
           have d2 : w2.cell? ⟨w.heap.size, 2, none⟩ = some (.int .i64 m) := (hb2.cell (p := ⟨w.heap.size, 2, none⟩) HS1.out).trans c2
           have d3 : w2.cell? ⟨w.heap.size, 3, none⟩ = some (.string s) := (hb2.cell (p := ⟨w.heap.size, 3, none⟩) HS1.out).trans c3
           clear hb2)
        | (go_at_call 291
           refine (formOk_bare _ _).mono ?_
           rintro e w3 ⟨rfl, hb3⟩
           have HB3 : Hid (Below w.heap.size w w3) := HB2.out.trans (hb3.mono (by have := HS2.out; omega))
           have f0 : w3.cell? ⟨w.heap.size, 0, none⟩ = some (.int .i64 k) := (hb3.cell (p := ⟨w.heap.size, 0, none⟩) HS2.out).trans d0
           have f1 : w3.cell? ⟨w.heap.size, 1, none⟩ = some (.int .i64 n) := (hb3.cell (p := ⟨w.heap.size, 1, none⟩) HS2.out).trans d1
           have f2 : w3.cell? ⟨w.heap.size, 2, none⟩ = some (.int .i64 m) := (hb3.cell (p := ⟨w.heap.size, 2, none⟩) HS2.out).trans d2
           have f3 : w3.cell? ⟨w.heap.size, 3, none⟩ = some (.string s) := (hb3.cell (p := ⟨w.heap.size, 3, none⟩) HS2.out).trans d3
           clear hb3))))
      | (exact absurd rfl (by assumption))
    all_goals go_wp2
    all_goals go_ret
    all_goals exact ⟨ret_bool (by rw [HO.out]; simp [hn]), HB2.out⟩
  subst hn
  by_cases hm : m = 0
  rotate_left
  · have hm' : ¬ 0 = m := fun h => hm h.symm
    go_wp2_with fail
    first
      | (go_region_with
      ((first
        | (go_at_call 320
           refine (asOp_bare _ _).mono ?_
           rintro e w2 ⟨rfl, hb2⟩
           have hb2 : Below w1.heap.size w1 w2 := below_undrew hb2
           have HB2 : Hid (Below w.heap.size w w2) := HB1.out.trans (hb2.mono (by have := HS1.out; show w.heap.size ≤ w1.heap.size; omega))
           have HS2 : Hid (w.heap.size < w2.heap.size) := by have h1 := HS1.out; have h2 : w1.heap.size ≤ w2.heap.size := hb2.size; exact Nat.lt_of_lt_of_le h1 h2
           have d0 : w2.cell? ⟨w.heap.size, 0, none⟩ = some (.int .i64 k) := (hb2.cell (p := ⟨w.heap.size, 0, none⟩) HS1.out).trans c0
           have d1 : w2.cell? ⟨w.heap.size, 1, none⟩ = some (.int .i64 0) := (hb2.cell (p := ⟨w.heap.size, 1, none⟩) HS1.out).trans c1
           have d2 : w2.cell? ⟨w.heap.size, 2, none⟩ = some (.int .i64 m) := (hb2.cell (p := ⟨w.heap.size, 2, none⟩) HS1.out).trans c2
           have d3 : w2.cell? ⟨w.heap.size, 3, none⟩ = some (.string s) := (hb2.cell (p := ⟨w.heap.size, 3, none⟩) HS1.out).trans c3
           clear hb2)
        | (go_at_call 291
           refine (formOk_bare _ _).mono ?_
           rintro e w3 ⟨rfl, hb3⟩
           have HB3 : Hid (Below w.heap.size w w3) := HB2.out.trans (hb3.mono (by have := HS2.out; omega))
           have f0 : w3.cell? ⟨w.heap.size, 0, none⟩ = some (.int .i64 k) := (hb3.cell (p := ⟨w.heap.size, 0, none⟩) HS2.out).trans d0
           have f1 : w3.cell? ⟨w.heap.size, 1, none⟩ = some (.int .i64 0) := (hb3.cell (p := ⟨w.heap.size, 1, none⟩) HS2.out).trans d1
           have f2 : w3.cell? ⟨w.heap.size, 2, none⟩ = some (.int .i64 m) := (hb3.cell (p := ⟨w.heap.size, 2, none⟩) HS2.out).trans d2
           have f3 : w3.cell? ⟨w.heap.size, 3, none⟩ = some (.string s) := (hb3.cell (p := ⟨w.heap.size, 3, none⟩) HS2.out).trans d3
           clear hb3))))
      | (exact absurd rfl (by assumption))
    all_goals go_wp2
    all_goals go_ret
    all_goals exact ⟨ret_bool (by rw [HO.out]; simp [hm]), HB2.out⟩
  subst hm
  by_cases hes : s.toList = []
  rotate_left
  · have hes' : ¬ [] = s.toList := fun h => hes h.symm
    have hem : emptyB s = false := by simp [emptyB, hes]
    go_wp2_with fail
    first
      | (go_region_with
      ((first
        | (go_at_call 320
           refine (asOp_bare _ _).mono ?_
           rintro e w2 ⟨rfl, hb2⟩
           have hb2 : Below w1.heap.size w1 w2 := below_undrew hb2
           have HB2 : Hid (Below w.heap.size w w2) := HB1.out.trans (hb2.mono (by have := HS1.out; show w.heap.size ≤ w1.heap.size; omega))
           have HS2 : Hid (w.heap.size < w2.heap.size) := by have h1 := HS1.out; have h2 : w1.heap.size ≤ w2.heap.size := hb2.size; exact Nat.lt_of_lt_of_le h1 h2
           have d0 : w2.cell? ⟨w.heap.size, 0, none⟩ = some (.int .i64 k) := (hb2.cell (p := ⟨w.heap.size, 0, none⟩) HS1.out).trans c0
           have d1 : w2.cell? ⟨w.heap.size, 1, none⟩ = some (.int .i64 0) := (hb2.cell (p := ⟨w.heap.size, 1, none⟩) HS1.out).trans c1
           have d2 : w2.cell? ⟨w.heap.size, 2, none⟩ = some (.int .i64 0) := (hb2.cell (p := ⟨w.heap.size, 2, none⟩) HS1.out).trans c2
           have d3 : w2.cell? ⟨w.heap.size, 3, none⟩ = some (.string s) := (hb2.cell (p := ⟨w.heap.size, 3, none⟩) HS1.out).trans c3
           clear hb2)
        | (go_at_call 291
           refine (formOk_bare _ _).mono ?_
           rintro e w3 ⟨rfl, hb3⟩
           have HB3 : Hid (Below w.heap.size w w3) := HB2.out.trans (hb3.mono (by have := HS2.out; omega))
           have f0 : w3.cell? ⟨w.heap.size, 0, none⟩ = some (.int .i64 k) := (hb3.cell (p := ⟨w.heap.size, 0, none⟩) HS2.out).trans d0
           have f1 : w3.cell? ⟨w.heap.size, 1, none⟩ = some (.int .i64 0) := (hb3.cell (p := ⟨w.heap.size, 1, none⟩) HS2.out).trans d1
           have f2 : w3.cell? ⟨w.heap.size, 2, none⟩ = some (.int .i64 0) := (hb3.cell (p := ⟨w.heap.size, 2, none⟩) HS2.out).trans d2
           have f3 : w3.cell? ⟨w.heap.size, 3, none⟩ = some (.string s) := (hb3.cell (p := ⟨w.heap.size, 3, none⟩) HS2.out).trans d3
           clear hb3))))
      | (exact absurd rfl (by assumption))
    all_goals go_wp2
    all_goals go_ret
    all_goals exact ⟨ret_bool (by rw [HO.out]; simp [hem]), HB2.out⟩
  have hem : emptyB s = true := by simp [emptyB, hes]
  go_wp2_with fail
  first
    | (go_region_with
    ((first
      | (go_at_call 320
         refine (asOp_bare _ _).mono ?_
         rintro e w2 ⟨rfl, hb2⟩
         have hb2 : Below w1.heap.size w1 w2 := below_undrew hb2
         have HB2 : Hid (Below w.heap.size w w2) := HB1.out.trans (hb2.mono (by have := HS1.out; show w.heap.size ≤ w1.heap.size; omega))
         have HS2 : Hid (w.heap.size < w2.heap.size) := by have h1 := HS1.out; have h2 : w1.heap.size ≤ w2.heap.size := hb2.size; exact Nat.lt_of_lt_of_le h1 h2
         have d0 : w2.cell? ⟨w.heap.size, 0, none⟩ = some (.int .i64 k) := (hb2.cell (p := ⟨w.heap.size, 0, none⟩) HS1.out).trans c0
         have d1 : w2.cell? ⟨w.heap.size, 1, none⟩ = some (.int .i64 0) := (hb2.cell (p := ⟨w.heap.size, 1, none⟩) HS1.out).trans c1
         have d2 : w2.cell? ⟨w.heap.size, 2, none⟩ = some (.int .i64 0) := (hb2.cell (p := ⟨w.heap.size, 2, none⟩) HS1.out).trans c2
         have d3 : w2.cell? ⟨w.heap.size, 3, none⟩ = some (.string s) := (hb2.cell (p := ⟨w.heap.size, 3, none⟩) HS1.out).trans c3
         clear hb2)
      | (go_at_call 291
         refine (formOk_bare _ _).mono ?_
         rintro e w3 ⟨rfl, hb3⟩
         have HB3 : Hid (Below w.heap.size w w3) := HB2.out.trans (hb3.mono (by have := HS2.out; omega))
         have f0 : w3.cell? ⟨w.heap.size, 0, none⟩ = some (.int .i64 k) := (hb3.cell (p := ⟨w.heap.size, 0, none⟩) HS2.out).trans d0
         have f1 : w3.cell? ⟨w.heap.size, 1, none⟩ = some (.int .i64 0) := (hb3.cell (p := ⟨w.heap.size, 1, none⟩) HS2.out).trans d1
         have f2 : w3.cell? ⟨w.heap.size, 2, none⟩ = some (.int .i64 0) := (hb3.cell (p := ⟨w.heap.size, 2, none⟩) HS2.out).trans d2
         have f3 : w3.cell? ⟨w.heap.size, 3, none⟩ = some (.string s) := (hb3.cell (p := ⟨w.heap.size, 3, none⟩) HS2.out).trans d3
         clear hb3))))
    | (exact absurd rfl (by assumption))
  all_goals go_wp2
  all_goals go_ret
  all_goals exact ⟨ret_bool (by rw [HO.out]; simp_all), HB3.out⟩
set_option maxHeartbeats 4000000 in
theorem implOp_none (k n m : Int) (s : ByteArray) (w : World) (hk : ¬ (1 ≤ k ∧ k ≤ 17)) :
    Calls Tryz.prog 287 #[.agg #[.int .i64 k, .int .i64 n, .int .i64 m, .string s]] w fun e w' => e = .returned (.bool (opB k n m s)) ∧ Below w.heap.size w w' := by
  rw [opB_none hk]
  go_enter Tryz.func287, Tryz.ntmps287
  go_wp2_with fail
  refine (formOf_none k n m s _ hk).mono ?_
  rintro e w1 ⟨rfl, hb1⟩
  have HB1 : Hid (Below w.heap.size w w1) := ((Below.refl _ _).alloc (Nat.le_refl _) _).trans (hb1.mono (by simp))
  clear hb1
  go_wp2_with fail
  go_quiet (fail)
  go_wp2
  go_ret
  exact ⟨rfl, below_drewN HB1.out _⟩
theorem implOpOk_any (k n m : Int) (s : ByteArray) (w : World) (hs : s.size ≤ 1048576) :
    Calls Tryz.prog 287 #[.agg #[.int .i64 k, .int .i64 n, .int .i64 m, .string s]] w fun e w' => e = .returned (.bool (opB k n m s)) ∧ Below w.heap.size w w' := by
  by_cases h0 : 1 ≤ k ∧ k ≤ 17
  · by_cases h1 : isNum k
    · exact implOp_num k n m s w h1
    by_cases h2 : isWait k
    · exact implOp_wait k n m s w h2
    by_cases h3 : isText k
    · exact implOp_text k n m s w hs h3
    by_cases h4 : k = 8
    · exact implOp_send k n m s w hs h4
    exact implOp_loop k n m s w (by unfold isNum at h1; unfold isWait at h2; unfold isText at h3; omega)
  · exact implOp_none k n m s w h0
end Go.Proofs.YtkbcplnlehdjfaaGreat

/- What ProgOk answers, the specification's and the program's. -/
namespace Go.Proofs.YtkbcplnlehdjfaaGreat
open Go.RowKit
set_option maxHeartbeats 1000000 in
theorem specProgOk_any (g len cap : Nat) (K N M : Nat → Int) (S : Nat → ByteArray) (w : World) (hl : len ≤ 1048576) (hs : ∀ i, i < len → (S i).size ≤ 1048576) (hr : OpsAt w g len K N M S) :
  Calls Tryz.prog 183 #[.slice (some ⟨g, 0, none⟩) len cap] w fun e w' => e = .returned (.bool (progB len K N M S)) ∧ Below w.heap.size w w' := by
 have HR : Hid (OpsAt w g len K N M S) := hr
 have HS : Hid (∀ i, i < len → (S i).size ≤ 1048576) := hs
 clear hr hs
 go_enter Tryz.func183, Tryz.ntmps183
 go_wp2
 go_loopw [3] (fun i wr => ∃ k : Nat, k ≤ len ∧ i = .int .i64 k ∧ (∀ j, j < k → opAtB K N M S j = true) ∧ Below w.heap.size w wr) (fun i _ => len - (intOf i).toNat)
 case atStart => exact ⟨0, Nat.zero_le _, rfl, fun j hj => absurd hj (by omega), Below.refl _ _⟩
 case round =>
  obtain ⟨k, hk, rfl, hall, hbel⟩ := hrel
  have HA : Hid (∀ j, j < k → opAtB K N M S j = true) := hall
  have HB : Hid (Below w.heap.size w wr) := hbel
  have HW : Hid (OpsAt wr g len K N M S) := HR.out.below hbel
  clear hall hbel
  by_cases hlt : k < len
  ·have c0 := HW.out.c0 hlt
   have c1 := HW.out.c1 hlt
   have c2 := HW.out.c2 hlt
   have c3 := HW.out.c3 hlt
   have i0 : (0 : Int) ≤ (k : Int) := by omega
   have i1 : (k : Int) < (len : Int) := by omega
   go_wp2_with fail
   refine (specOpOk_any (K k) (N k) (M k) (S k) wr (HS.out k hlt)).mono ?_
   rintro e w1 ⟨rfl, hb1⟩
   have HB1 : Hid (Below w.heap.size w w1) := HB.out.trans (hb1.mono HB.out.size)
   have HO : Hid (opB (K k) (N k) (M k) (S k) = opAtB K N M S k) := rfl
   rw [HO.out]
   clear hb1 c0 c1 c2 c3
   cases hop : opAtB K N M S k with
   | true =>
    have HP : Hid (opAtB K N M S k = true) := hop
    clear hop
    go_wp2
    go_roundw
    case rel => exact ⟨k + 1, by omega, by go_num, fun j hj => by
     by_cases e : j = k
     ·subst e; exact HP.out
     ·exact HA.out j (by omega), HB1.out⟩
    case measure => simp [intOf]; omega
   | false =>
    have HP : Hid (opAtB K N M S k = false) := hop
    clear hop
    go_wp2
    go_ret
    exact ⟨ret_bool (progB_false (fun h => by have := h.2.2 k hlt; rw [HP.out] at this; cases this)).symm, HB1.out⟩
  ·have e : k = len := by omega
   subst e
   by_cases h1 : 1 ≤ k
   ·have h1' : (1 : Int) ≤ (k : Int) := by omega
    by_cases h2 : k ≤ 20
    ·have h2' : (k : Int) ≤ 20 := by omega
     go_wp2
     go_ret
     exact ⟨ret_bool (by rw [progB_true ⟨h1, h2, HA.out⟩]), HB.out⟩
    ·have h2' : ¬ (k : Int) ≤ 20 := by omega
     go_wp2
     go_ret
     exact ⟨ret_bool (by rw [progB_false (fun h => h2 h.2.1)]), HB.out⟩
   ·have h1' : ¬ (1 : Int) ≤ (k : Int) := by omega
    go_wp2
    go_ret
    exact ⟨ret_bool (by rw [progB_false (fun h => h1 h.1)]), HB.out⟩
set_option maxHeartbeats 1000000 in
theorem implProgOk_any (g len cap : Nat) (K N M : Nat → Int) (S : Nat → ByteArray) (w : World) (hl : len ≤ 1048576) (hs : ∀ i, i < len → (S i).size ≤ 1048576) (hr : OpsAt w g len K N M S) :
  Calls Tryz.prog 284 #[.slice (some ⟨g, 0, none⟩) len cap] w fun e w' => e = .returned (.bool (progB len K N M S)) ∧ Below w.heap.size w w' := by
 have HR : Hid (OpsAt w g len K N M S) := hr
 have HS : Hid (∀ i, i < len → (S i).size ≤ 1048576) := hs
 clear hr hs
 by_cases h1 : ¬ 1 ≤ len
 ·have h1' : (len : Int) < 1 := by omega
  go_enter Tryz.func284, Tryz.ntmps284
  go_wp2
  go_ret
  exact ⟨ret_bool (progB_false (fun h => h1 h.1)).symm, Below.refl _ _⟩
 have h1' : ¬ (len : Int) < 1 := by omega
 by_cases h2 : 20 < len
 ·have h2' : (20 : Int) < (len : Int) := by omega
  go_enter Tryz.func284, Tryz.ntmps284
  go_wp2
  go_ret
  exact ⟨ret_bool (progB_false (fun h => by omega)).symm, Below.refl _ _⟩
 have h2' : ¬ (20 : Int) < (len : Int) := by omega
 go_enter Tryz.func284, Tryz.ntmps284
 go_wp2_with fail
 go_loopw [15] (fun i wr => ∃ k : Nat, k ≤ len ∧ i = .int .i64 k ∧ (∀ j, j < k → opAtB K N M S j = true) ∧ Below w.heap.size w wr) (fun i _ => len - (intOf i).toNat)
 case atStart => exact ⟨0, Nat.zero_le _, rfl, fun j hj => absurd hj (by omega), Below.refl _ _⟩
 case round =>
  obtain ⟨k, hk, rfl, hall, hbel⟩ := hrel
  have HA : Hid (∀ j, j < k → opAtB K N M S j = true) := hall
  have HB : Hid (Below w.heap.size w wr) := hbel
  have HW : Hid (OpsAt wr g len K N M S) := HR.out.below hbel
  clear hall hbel
  by_cases hlt : k < len
  ·have c0 := HW.out.c0 hlt
   have c1 := HW.out.c1 hlt
   have c2 := HW.out.c2 hlt
   have c3 := HW.out.c3 hlt
   have i0 : (0 : Int) ≤ (k : Int) := by omega
   have i1 : (k : Int) < (len : Int) := by omega
   have hgl := HW.out.1
   go_wp2_with fail
   refine (implOpOk_any (K k) (N k) (M k) (S k) _ (HS.out k hlt)).mono ?_
   rintro e w1 ⟨rfl, hb1⟩
   have HB1 : Hid (Below w.heap.size w w1) := (HB.out.alloc HB.out.size _).trans (hb1.mono (by have := HB.out.size; simp; omega))
   have HO : Hid (opB (K k) (N k) (M k) (S k) = opAtB K N M S k) := rfl
   rw [HO.out]
   clear hb1 c0 c1 c2 c3
   cases hop : opAtB K N M S k with
   | true =>
    have HP : Hid (opAtB K N M S k = true) := hop
    clear hop
    go_wp2
    go_roundw
    case rel => exact ⟨k + 1, by omega, by go_num, fun j hj => by
     by_cases e : j = k
     ·subst e; exact HP.out
     ·exact HA.out j (by omega), HB1.out⟩
    case measure => simp [intOf]; omega
   | false =>
    have HP : Hid (opAtB K N M S k = false) := hop
    clear hop
    go_wp2
    go_ret
    exact ⟨ret_bool (progB_false (fun h => by have := h.2.2 k hlt; rw [HP.out] at this; cases this)).symm, HB1.out⟩
  ·have e : k = len := by omega
   subst e
   go_wp2
   go_ret
   exact ⟨ret_bool (progB_true ⟨by omega, by omega, HA.out⟩).symm, HB.out⟩
end Go.Proofs.YtkbcplnlehdjfaaGreat

/- Whether a program is right, of a list of ops wherever it lies. -/
namespace Go.Proofs.YtkbcplnlehdjfaaGreat
open Go.RowKit
theorem opFlat_get (l : List OpD) {j : Nat} (hj : j < l.length * 4) : (opK.flat l)[j]? = some (opV (kOf l) (nOf l) (mOf l) (sOf l) j) := by
 have hi : j / 4 < l.length := by omega
 have hx : l[j / 4]? = some l[j / 4] := List.getElem?_eq_getElem hi
 have hr : j % 4 < 4 := by omega
 have := opK.flat_get hx (j := j % 4) hr
 have e : j / 4 * opK.n + j % 4 = j := by show j / 4 * 4 + j % 4 = j; omega
 rw [e] at this
 rw [this]
 have h4 : j % 4 = 0 ∨ j % 4 = 1 ∨ j % 4 = 2 ∨ j % 4 = 3 := by omega
 rcases h4 with h | h | h | h <;> rw [h] <;> simp [opK, opVals, opV, h, kOf, nOf, mOf, sOf, hx]
theorem ops_of_row {w : World} {a : Option Addr} {l : List OpD} (h : Row w a (opK.flat l)) (hl : 0 < l.length) : ∃ g, a = some ⟨g, 0, none⟩ ∧ ListAt w g l := by
 obtain ⟨g, e, hc⟩ := h 0 _ (opFlat_get l (j := 0) (by omega))
 refine ⟨g, e, block_lt_of_cell hc, fun j hj => ?_⟩
 obtain ⟨g', e', hc'⟩ := h j _ (opFlat_get l hj)
 rw [e] at e'
 cases e'
 exact hc'
theorem op_at {w : World} {a : Option Addr} {l : List OpD} (h : Row w a (opK.flat l)) {i : Nat} {x : OpD} (hx : l[i]? = some x) : ∃ g, a = some ⟨g, 0, none⟩ ∧ w.cell? ⟨g, i * 4, none⟩ = some (.int .i64 x.1) ∧ w.cell? ⟨g, i * 4 + 1, none⟩ = some (.int .i64 x.2.1) ∧ w.cell? ⟨g, i * 4 + 2, none⟩ = some (.int .i64 x.2.2.1) ∧ w.cell? ⟨g, i * 4 + 3, none⟩ = some (.string x.2.2.2) := by
 have h' : opK.Lies w a l := ⟨h, fun _ _ r hr => by cases hr⟩
 obtain ⟨g, e, hc⟩ := h'.at hx
 exact ⟨g, e, hc 0 _ rfl, hc 1 _ rfl, hc 2 _ rfl, hc 3 _ rfl⟩
theorem sOf_small {l : List OpD} (hs : ∀ o ∈ l, o.2.2.2.size ≤ 1048576) : ∀ i, i < l.length → (sOf l i).size ≤ 1048576 := fun i hi => by
 simp only [sOf, List.getElem?_eq_getElem hi, Option.getD_some]
 exact hs _ (List.getElem_mem hi)
/-- The texts of a process and of its ops are not too long for a machine. -/
structure ProcD.Short (x : ProcD) : Prop where
 prog : x.prog.length ≤ 1048576
 ops : ∀ o ∈ x.prog, o.2.2.2.size ≤ 1048576
 held : x.held.size ≤ 1048576
 got : x.got.size ≤ 1048576
theorem progL_nil : progL [] = false := progB_false (fun h => by have := h.1; simp at this)
set_option maxHeartbeats 1000000 in
theorem specProgOk_none (a : Option Addr) (cap : Nat) (w : World) :
  Calls Tryz.prog 183 #[.slice a 0 cap] w fun e w' => e = .returned (.bool false) ∧ Below w.heap.size w w' := by
 go_enter Tryz.func183, Tryz.ntmps183
 go_wp2
 go_loop [3] (fun i => i = .int .i64 0) (fun _ => 0)
 case atStart => rfl
 case round =>
  subst hrel
  go_wp2
  go_ret
  exact ⟨rfl, Below.refl _ _⟩
theorem specProgL_any (a : Option Addr) (l : List OpD) (cap : Nat) (w : World) (hl : l.length ≤ 1048576) (hs : ∀ o ∈ l, o.2.2.2.size ≤ 1048576) (h : Row w a (opK.flat l)) :
  Calls Tryz.prog 183 #[.slice a l.length cap] w fun e w' => e = .returned (.bool (progL l)) ∧ Below w.heap.size w w' := by
 cases l with
 | nil => rw [progL_nil]; exact specProgOk_none a cap w
 | cons x r =>
  obtain ⟨g, rfl, hr⟩ := ops_of_row h (by simp)
  exact specProgOk_any g _ cap _ _ _ _ w hl (sOf_small hs) hr
set_option maxHeartbeats 1000000 in
theorem implProgOk_none (a : Option Addr) (cap : Nat) (w : World) :
  Calls Tryz.prog 284 #[.slice a 0 cap] w fun e w' => e = .returned (.bool false) ∧ Below w.heap.size w w' := by
 go_enter Tryz.func284, Tryz.ntmps284
 go_wp2
 go_ret
 exact ⟨rfl, Below.refl _ _⟩
theorem implProgL_any (a : Option Addr) (l : List OpD) (cap : Nat) (w : World) (hl : l.length ≤ 1048576) (hs : ∀ o ∈ l, o.2.2.2.size ≤ 1048576) (h : Row w a (opK.flat l)) :
  Calls Tryz.prog 284 #[.slice a l.length cap] w fun e w' => e = .returned (.bool (progL l)) ∧ Below w.heap.size w w' := by
 cases l with
 | nil => rw [progL_nil]; exact implProgOk_none a cap w
 | cons x r =>
  obtain ⟨g, rfl, hr⟩ := ops_of_row h (by simp)
  exact implProgOk_any g _ cap _ _ _ _ w hl (sOf_small hs) hr
end Go.Proofs.YtkbcplnlehdjfaaGreat

/- The things of the kind Proc, and their shelf: what each method does. (Made by mkshelf.py.) -/
namespace Go.Proofs.YtkbcplnlehdjfaaGreat
open Go.RowKit
attribute [local go_sem ↓] Go.wp_at_zero Go.wp_at_succ
def procVs (x : ProcD) : Array Value := #[.int .i64 x.id, .int .i64 x.prio, .slice x.progA x.prog.length x.progC, .int .i64 x.state, .int .i64 x.pc, .int .i64 x.left, .int .i64 x.wake, .int .i64 x.on, .string x.held, .string x.got, .int .i64 x.code, .int .i64 x.since]
/-- Its lists lie, and nothing of it is too long for a machine. -/
def ProcFit (w : World) (x : ProcD) : Prop := x.Short ∧ Row w x.progA (opK.flat x.prog)
theorem ProcFit.below {w w' : World} {x : ProcD} (h : ProcFit w x) (hb : Below w.heap.size w w') : ProcFit w' x := ⟨h.1, h.2.below hb⟩
theorem proc_cells {W : World} {X : Nat} {x : ProcD} (h : W.heap[X]? = some (.cells (procVs x) 43 (0, 0))) : W.cell? ⟨X, 0, none⟩ = some (.int .i64 x.id) ∧ W.cell? ⟨X, 1, none⟩ = some (.int .i64 x.prio) ∧ W.cell? ⟨X, 2, none⟩ = some (.slice x.progA x.prog.length x.progC) ∧ W.cell? ⟨X, 3, none⟩ = some (.int .i64 x.state) ∧ W.cell? ⟨X, 4, none⟩ = some (.int .i64 x.pc) ∧ W.cell? ⟨X, 5, none⟩ = some (.int .i64 x.left) ∧ W.cell? ⟨X, 6, none⟩ = some (.int .i64 x.wake) ∧ W.cell? ⟨X, 7, none⟩ = some (.int .i64 x.on) ∧ W.cell? ⟨X, 8, none⟩ = some (.string x.held) ∧ W.cell? ⟨X, 9, none⟩ = some (.string x.got) ∧ W.cell? ⟨X, 10, none⟩ = some (.int .i64 x.code) ∧ W.cell? ⟨X, 11, none⟩ = some (.int .i64 x.since) := by
 unfold procVs at h
 simp [World.cell?, h]
set_option maxHeartbeats 400000 in
theorem numberProc_any (x : ProcD) (w : World) : Calls Tryz.prog 282 #[.agg (procVs x)] w fun e w' => e = .returned (.int .i64 x.id) ∧ Below w.heap.size w w' := by
 unfold procVs
 go_enter Tryz.func282, Tryz.ntmps282
 go_wp2
 go_ret
 exact ⟨rfl, (Below.refl _ _).alloc (Nat.le_refl _) _⟩
theorem meth_numberProc (v : Value) (w : World) : Sem.run Tryz.prog (method 440 43 v "loop.example/g00313/impl.number") w = .ok (282, v) w := by kernel_rfl
theorem meth_rightProc (v : Value) (w : World) : Sem.run Tryz.prog (method 440 43 v "loop.example/g00313/impl.right") w = .ok (283, v) w := by kernel_rfl
theorem zeroPtrProc (w : World) : (zeroValue 102).run Tryz.prog w = .ok (.pointer none) w := by kernel_rfl
set_option maxHeartbeats 1000000 in
theorem hasProc_any (most : Int) (b : Nat) (m : MapL) (id : Int) (w : World) (h : MapIs w b m) (hw : (Lit.int .i64 id).wf = true) :
  Calls Tryz.prog 163 #[.agg #[.int .i64 most, .map (some b)], .int .i64 id] w fun e w' => e = .returned (.bool (lookM m id).isSome) ∧ Below w.heap.size w w' := by
 have hlk := (h.below ((Below.refl _ w).alloc (Nat.le_refl _) (.cells #[.int .i64 most, .map (some b)] 110))).look Tryz.underlying108 (zeroPtrProc _) hw true
 simp only [if_true] at hlk
 clear h hw
 go_enter Tryz.func163, Tryz.ntmps163
 go_wp2
 go_ret
 exact ⟨rfl, (Below.refl _ _).alloc (Nat.le_refl _) _⟩
set_option maxHeartbeats 1000000 in
theorem isWake_any (t : Int) (w : World) : Calls Tryz.prog 289 #[.int .i64 t] w fun e w' => e = .returned (.bool (inB t 1 2000000000)) ∧ w' = w := by
 by_cases h1 : 1 ≤ t
 ·by_cases h2 : t ≤ 2000000000
  ·go_enter Tryz.func289, Tryz.ntmps289
   go_wp2
   go_ret
   exact ⟨ret_bool (inB_true h1 h2).symm, rfl⟩
  ·go_enter Tryz.func289, Tryz.ntmps289
   go_wp2
   go_ret
   exact ⟨ret_bool (inB_high (by omega)).symm, rfl⟩
 ·go_enter Tryz.func289, Tryz.ntmps289
  go_wp2
  go_ret
  exact ⟨ret_bool (inB_low (by omega)).symm, rfl⟩
set_option maxHeartbeats 1000000 in
theorem hasOp_any (x : ProcD) (w : World) (hl : x.prog.length ≤ 1048576) : Calls Tryz.prog 229 #[.agg (procVs x)] w fun e w' => e = .returned (.bool (hasOpB x.toProcP)) ∧ Below w.heap.size w w' := by
 unfold procVs
 have e1 : wrap64 (x.prog.length : Int) = x.prog.length := by unfold wrap64; omega
 by_cases h1 : 0 ≤ x.pc
 ·by_cases h2 : x.pc < (x.prog.length : Int)
  ·have HV : Hid (hasOpB x.toProcP = true) := inB_true h1 (by omega)
   go_enter Tryz.func229, Tryz.ntmps229
   go_wp2
   go_ret
   exact ⟨ret_bool HV.out.symm, (Below.refl _ _).alloc (Nat.le_refl _) _⟩
  ·have HV : Hid (hasOpB x.toProcP = false) := inB_high (by omega)
   go_enter Tryz.func229, Tryz.ntmps229
   go_wp2
   go_ret
   exact ⟨ret_bool HV.out.symm, (Below.refl _ _).alloc (Nat.le_refl _) _⟩
 ·have HV : Hid (hasOpB x.toProcP = false) := inB_low (by omega)
  go_enter Tryz.func229, Tryz.ntmps229
  go_wp2
  go_ret
  exact ⟨ret_bool HV.out.symm, (Below.refl _ _).alloc (Nat.le_refl _) _⟩
theorem hasOp_get {x : ProcP} (h : hasOpB x = true) : ∃ k : Nat, x.pc = k ∧ k < x.prog.length ∧ x.prog[k]? = some (opAt x) := by
 have := inB_iff.1 h
 refine ⟨x.pc.toNat, by omega, by omega, ?_⟩
 unfold opAt
 rw [List.getElem?_eq_getElem (by omega)]
 rfl
set_option maxHeartbeats 2000000 in
theorem leftOk_any (x : ProcD) (w : World) (hf : ProcFit w x) (h : hasOpB x.toProcP = true) : Calls Tryz.prog 288 #[.agg (procVs x)] w fun e w' => e = .returned (.bool (leftB x.toProcP)) ∧ Below w.heap.size w w' := by
 obtain ⟨k, hk, hkl, hop⟩ := hasOp_get h
 have b1 : Below w.heap.size w (w.alloc (.cells (procVs x) 43)) := (Below.refl _ _).alloc (Nat.le_refl _) _
 obtain ⟨g, hg, c0, c1, c2, c3⟩ := op_at (hf.2.below b1) hop
 have HL : Hid (leftB x.toProcP = if (opAt x.toProcP).1 = 1 then decide (0 ≤ x.left) && decide (x.left < (opAt x.toProcP).2.1) else decide (x.left = 0)) := rfl
 have i0 : (0 : Int) ≤ (k : Int) := by omega
 have i1 : (k : Int) < (x.prog.length : Int) := by omega
 clear h hop hf
 generalize opAt x.toProcP = o at *
 obtain ⟨⟨id, prio, prog, state, pc, left, wake, on, held, got, code, since⟩, progA, progC⟩ := x
 simp only at hk hg i1 HL
 subst hk hg
 unfold procVs at *
 simp only at *
 by_cases h1 : o.1 = 1
 ·have HL1 : Hid (leftB ⟨id, prio, prog, state, k, left, wake, on, held, got, code, since⟩ = (decide (0 ≤ left) && decide (left < o.2.1))) := HL.out.trans (if_pos h1)
  have h1' : (o.1 == 1) = true := by simp [h1]
  clear h1 HL
  by_cases h2 : 0 ≤ left
  ·by_cases h3 : left < o.2.1
   all_goals
    go_enter Tryz.func288, Tryz.ntmps288
    go_wp2
    go_ret
    exact ⟨ret_bool (by rw [HL1.out]; simp [h2, h3]), by go_grown⟩
  ·go_enter Tryz.func288, Tryz.ntmps288
   go_wp2
   go_ret
   exact ⟨ret_bool (by rw [HL1.out, decide_eq_false (by omega)]; rfl), by go_grown⟩
 ·have HL1 : Hid (leftB ⟨id, prio, prog, state, k, left, wake, on, held, got, code, since⟩ = decide (left = 0)) := HL.out.trans (if_neg h1)
  have h1' : (o.1 == 1) = false := by simp [h1]
  clear h1 HL
  go_enter Tryz.func288, Tryz.ntmps288
  go_wp2
  go_ret
  exact ⟨ret_bool (by rw [HL1.out]; by_cases h : left = 0 <;> simp [h]), by go_grown⟩
end Go.Proofs.YtkbcplnlehdjfaaGreat

/- An open partition's own block. -/
namespace Go.Proofs.YtkbcplnlehdjfaaGreat
open Go.RowKit
/-- The numbers of an open partition, and the blocks of its maps. -/
structure Opn where
 id : Int
 next : Int
 bp : Nat
 bs : Nat
 be : Nat
 bb : Nat
 bf : Nat
 bq : Nat
def Opn.cells (q : Opn) : Array Value := #[.int .i64 q.id, .int .i64 q.next, .int .i64 6, .map (some q.bp), .int .i64 5, .map (some q.bs), .int .i64 5, .map (some q.be), .int .i64 5, .map (some q.bb), .int .i64 5, .map (some q.bf), .int .i64 5, .map (some q.bq)]
def OpenBox (W : World) (o : Nat) (q : Opn) : Prop := W.heap[o]? = some (.cells q.cells 127 (0, 0))
theorem OpenBox.below {W W' : World} {o : Nat} {q : Opn} (h : OpenBox W o q) (hb : Below W.heap.size W W') : OpenBox W' o q := (hb.block o (Array.getElem?_eq_some_iff.1 h).1).trans h
theorem OpenBox.cell {W : World} {o : Nat} {q : Opn} (h : OpenBox W o q) (i : Nat) : W.cell? ⟨o, i, none⟩ = q.cells[i]? := by
 unfold OpenBox at h
 simp [World.cell?, h]
/-- What is there while it is asked what a process waits for. -/
structure HasIn (w W : World) (o X : Nat) (q : Opn) (x : ProcD) (ms me mb mf : MapL) : Prop where
 opn : OpenBox W o q
 box : W.heap[X]? = some (.cells (procVs x) 43 (0, 0))
 ms : MapIs W q.bs ms
 me : MapIs W q.be me
 mb : MapIs W q.bb mb
 mf : MapIs W q.bf mf
 bel : Below w.heap.size w W
theorem HasIn.below {w W W' : World} {o X : Nat} {q : Opn} {x : ProcD} {ms me mb mf : MapL} (h : HasIn w W o X q x ms me mb mf) (hb : Below W.heap.size W W') : HasIn w W' o X q x ms me mb mf :=
 ⟨h.opn.below hb, (hb.block _ (Array.getElem?_eq_some_iff.1 h.box).1).trans h.box, h.ms.below hb, h.me.below hb, h.mb.below hb, h.mf.below hb, h.bel.trans (hb.mono h.bel.size)⟩
theorem HasIn.drew {w W : World} {o X : Nat} {q : Opn} {x : ProcD} {ms me mb mf : MapL} (h : HasIn w W o X q x ms me mb mf) : HasIn w W.drew o X q x ms me mb mf := h.below (Below.refl _ _).drew
/-- Whether there is what a process waits for, by the keys of the maps. -/
def waitK (ms me mb mf : MapL) (x : ProcD) : Bool :=
 if x.state = 3 then (lookM ms x.on).isSome else if x.state = 4 then (lookM me x.on).isSome else if x.state = 5 ∨ x.state = 6 then (lookM mf x.on).isSome else if x.state = 7 then (lookM mb x.on).isSome else true
end Go.Proofs.YtkbcplnlehdjfaaGreat

/- The things of the kind Buffer, and their shelf: what each method does. (Made by mkshelf.py.) -/
namespace Go.Proofs.YtkbcplnlehdjfaaGreat
open Go.RowKit
attribute [local go_sem ↓] Go.wp_at_zero Go.wp_at_succ
def bufferVs (x : BufferD) : Array Value := #[.int .i64 x.id, .int .i64 x.max, .slice x.itemsA x.items.length x.itemsC]
/-- Its lists lie, and nothing of it is too long for a machine. -/
def BufferFit (w : World) (x : BufferD) : Prop := TextsFit w x.itemsA x.items
theorem BufferFit.below {w w' : World} {x : BufferD} (h : BufferFit w x) (hb : Below w.heap.size w w') : BufferFit w' x := TextsFit.below h hb
theorem buffer_cells {W : World} {X : Nat} {x : BufferD} (h : W.heap[X]? = some (.cells (bufferVs x) 144 (0, 0))) : W.cell? ⟨X, 0, none⟩ = some (.int .i64 x.id) ∧ W.cell? ⟨X, 1, none⟩ = some (.int .i64 x.max) ∧ W.cell? ⟨X, 2, none⟩ = some (.slice x.itemsA x.items.length x.itemsC) := by
 unfold bufferVs at h
 simp [World.cell?, h]
set_option maxHeartbeats 400000 in
theorem numberBuffer_any (x : BufferD) (w : World) : Calls Tryz.prog 313 #[.agg (bufferVs x)] w fun e w' => e = .returned (.int .i64 x.id) ∧ Below w.heap.size w w' := by
 unfold bufferVs
 go_enter Tryz.func313, Tryz.ntmps313
 go_wp2
 go_ret
 exact ⟨rfl, (Below.refl _ _).alloc (Nat.le_refl _) _⟩
theorem meth_numberBuffer (v : Value) (w : World) : Sem.run Tryz.prog (method 440 144 v "loop.example/g00313/impl.number") w = .ok (313, v) w := by kernel_rfl
theorem meth_rightBuffer (v : Value) (w : World) : Sem.run Tryz.prog (method 440 144 v "loop.example/g00313/impl.right") w = .ok (314, v) w := by kernel_rfl
theorem zeroPtrBuffer (w : World) : (zeroValue 224).run Tryz.prog w = .ok (.pointer none) w := by kernel_rfl
set_option maxHeartbeats 1000000 in
theorem hasBuffer_any (most : Int) (b : Nat) (m : MapL) (id : Int) (w : World) (h : MapIs w b m) (hw : (Lit.int .i64 id).wf = true) :
  Calls Tryz.prog 178 #[.agg #[.int .i64 most, .map (some b)], .int .i64 id] w fun e w' => e = .returned (.bool (lookM m id).isSome) ∧ Below w.heap.size w w' := by
 have hlk := (h.below ((Below.refl _ w).alloc (Nat.le_refl _) (.cells #[.int .i64 most, .map (some b)] 122))).look Tryz.underlying120 (zeroPtrBuffer _) hw true
 simp only [if_true] at hlk
 clear h hw
 go_enter Tryz.func178, Tryz.ntmps178
 go_wp2
 go_ret
 exact ⟨rfl, (Below.refl _ _).alloc (Nat.le_refl _) _⟩
set_option maxHeartbeats 1000000 in
theorem rightBuffer_any (x : BufferD) (w : World) (hf : BufferFit w x) : Calls Tryz.prog 314 #[.agg (bufferVs x)] w fun e w' => e = .returned (.bool (bufferB x.toBufferP)) ∧ Below w.heap.size w w' := by
 have HF : Hid (BufferFit w x) := hf
 clear hf
 unfold bufferVs
 go_enter Tryz.func314, Tryz.ntmps314
 go_wp2_with fail
 refine (itemsOk_any x.itemsA x.items x.itemsC x.max _ (TextsFit.below HF.out ((Below.refl _ _).alloc (Nat.le_refl _) _))).mono ?_
 rintro e w1 ⟨rfl, hw1⟩
 subst hw1
 go_wp2
 go_ret
 exact ⟨rfl, (Below.refl _ _).alloc (Nat.le_refl _) _⟩
end Go.Proofs.YtkbcplnlehdjfaaGreat

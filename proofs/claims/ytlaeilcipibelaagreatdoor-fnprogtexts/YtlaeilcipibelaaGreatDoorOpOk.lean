/- What OpOk answers, the program's. -/
import Derived.Test.YtlaeilcipibelaaGreatDoorOpForms
import Derived.Deep.RegionWith
namespace Go.Proofs.YtlaeilcipibelaaGreatDoor
open Go.RowKit
attribute [local go_sem ↓] Go.wp_at_zero Go.wp_at_succ

theorem cells_below {w w1 : World} {cs : Array Value} {t : TypeId} (h : Below (w.alloc (.cells cs t)).heap.size (w.alloc (.cells cs t)) w1) (i : Nat) : w1.cell? ⟨w.heap.size, i, none⟩ = cs[i]? :=
  (h.cell (p := ⟨w.heap.size, i, none⟩) (by simp)).trans (by simp)
theorem below_undrew {B : Nat} {w w' : World} (h : Below B w.drew w') : Below B w w' := ⟨h.os, h.tape, h.output, h.size, h.block⟩
theorem below_drewN {B : Nat} {w w' : World} (h : Below B w w') (n : Nat) : Below B w (w'.drewN n) := ⟨h.os, h.tape, h.output, h.size, h.block⟩
theorem opB_num {k n m : Int} {s : ByteArray} (h : isNum k) : opB k n m s = (inB n 1 1000 && decide (m = 0) && emptyB s) := by
  unfold isNum at h
  unfold opB
  rw [if_pos h]
theorem opB_wait {k n m : Int} {s : ByteArray} (h : isWait k) : opB k n m s = (inB n 1 1000 && inB m (-1) 1000 && emptyB s) := by
  unfold isWait at h
  unfold opB
  rw [if_neg (by omega), if_pos h]
theorem opB_send {k n m : Int} {s : ByteArray} (h : k = 8) : opB k n m s = (inB n 1 1000 && inB m (-1) 1000 && plainB s) := by
  unfold opB
  rw [if_neg (by omega), if_neg (by omega), if_pos h]
theorem opB_text {k n m : Int} {s : ByteArray} (h : isText k) : opB k n m s = (inB n 1 1000 && decide (m = 0) && plainB s) := by
  unfold isText at h
  unfold opB
  rw [if_neg (by omega), if_neg (by omega), if_neg (by omega), if_pos h]
theorem opB_loop {k n m : Int} {s : ByteArray} (h : k = 17) : opB k n m s = (decide (n = 0) && decide (m = 0) && emptyB s) := by
  unfold opB
  rw [if_neg (by omega), if_neg (by omega), if_neg (by omega), if_neg (by omega), if_pos h]

set_option maxHeartbeats 4000000 in
theorem implOp_num (k n m : Int) (s : ByteArray) (w : World) (hk : isNum k) :
    Calls Tryz.prog 21 #[.agg #[.int .i64 k, .int .i64 n, .int .i64 m, .string s]] w fun e w' => e = .returned (.bool (opB k n m s)) ∧ Below w.heap.size w w' := by
  have HO : Hid (opB k n m s = (inB n 1 1000 && decide (m = 0) && emptyB s)) := opB_num hk
  have HK : Hid (isNum k) := hk
  clear hk
  go_enter Tryz.func21, Tryz.ntmps21
  go_wp2_with fail
  refine (formOf_num k n m s _ HK.out).mono ?_
  rintro e w1 ⟨rfl, hb1⟩
  have c0 : w1.cell? ⟨w.heap.size, 0, none⟩ = some (.int .i64 k) := cells_below hb1 0
  have c1 : w1.cell? ⟨w.heap.size, 1, none⟩ = some (.int .i64 n) := cells_below hb1 1
  have c2 : w1.cell? ⟨w.heap.size, 2, none⟩ = some (.int .i64 m) := cells_below hb1 2
  have c3 : w1.cell? ⟨w.heap.size, 3, none⟩ = some (.string s) := cells_below hb1 3
  have HB1 : Hid (Below w.heap.size w w1) := ((Below.refl _ _).alloc (Nat.le_refl _) _).trans (hb1.mono (by simp))
  have HS1 : Hid (w.heap.size < w1.heap.size) := by have := hb1.size; simp only [World.size_alloc] at this; exact this
  clear hb1
  by_cases hm : m = 0
  rotate_left
  · have hm' : ¬ 0 = m := fun h => hm h.symm
    go_wp2_with fail
    first
      | (go_region_with
      ((first
        | (go_at_call 121
           refine (asOp_number _ _ _).mono ?_
           rintro e w2 ⟨rfl, hb2⟩
           have hb2 : Below w1.heap.size w1 w2 := below_undrew hb2
           have HB2 : Hid (Below w.heap.size w w2) := HB1.out.trans (hb2.mono (by have := HS1.out; show w.heap.size ≤ w1.heap.size; omega))
           have HS2 : Hid (w.heap.size < w2.heap.size) := by have h1 := HS1.out; have h2 : w1.heap.size ≤ w2.heap.size := hb2.size; exact Nat.lt_of_lt_of_le h1 h2
           have d0 : w2.cell? ⟨w.heap.size, 0, none⟩ = some (.int .i64 k) := (hb2.cell (p := ⟨w.heap.size, 0, none⟩) HS1.out).trans c0
           have d1 : w2.cell? ⟨w.heap.size, 1, none⟩ = some (.int .i64 n) := (hb2.cell (p := ⟨w.heap.size, 1, none⟩) HS1.out).trans c1
           have d2 : w2.cell? ⟨w.heap.size, 2, none⟩ = some (.int .i64 m) := (hb2.cell (p := ⟨w.heap.size, 2, none⟩) HS1.out).trans c2
           have d3 : w2.cell? ⟨w.heap.size, 3, none⟩ = some (.string s) := (hb2.cell (p := ⟨w.heap.size, 3, none⟩) HS1.out).trans c3
           clear hb2)
        | (go_at_call 37
           refine (formOk_number _ _ _).mono ?_
           rintro e w3 ⟨rfl, hb3⟩
           have HB3 : Hid (Below w.heap.size w w3) := HB2.out.trans (hb3.mono (by have := HS2.out; omega))
           have f0 : w3.cell? ⟨w.heap.size, 0, none⟩ = some (.int .i64 k) := (hb3.cell (p := ⟨w.heap.size, 0, none⟩) HS2.out).trans d0
           have f1 : w3.cell? ⟨w.heap.size, 1, none⟩ = some (.int .i64 n) := (hb3.cell (p := ⟨w.heap.size, 1, none⟩) HS2.out).trans d1
           have f2 : w3.cell? ⟨w.heap.size, 2, none⟩ = some (.int .i64 m) := (hb3.cell (p := ⟨w.heap.size, 2, none⟩) HS2.out).trans d2
           have f3 : w3.cell? ⟨w.heap.size, 3, none⟩ = some (.string s) := (hb3.cell (p := ⟨w.heap.size, 3, none⟩) HS2.out).trans d3
           clear hb3))))
      | (exact absurd rfl (by assumption))
    all_goals go_wp2
    all_goals go_ret
    all_goals exact ⟨ret_bool (by rw [HO.out]; simp [hm]), HB2.out⟩
  subst hm
  by_cases hes : s.toList = []
  rotate_left
  · have hes' : ¬ [] = s.toList := fun h => hes h.symm
    have hem : emptyB s = false := by simp [emptyB, hes]
    go_wp2_with fail
    first
      | (go_region_with
      ((first
        | (go_at_call 121
           refine (asOp_number _ _ _).mono ?_
           rintro e w2 ⟨rfl, hb2⟩
           have hb2 : Below w1.heap.size w1 w2 := below_undrew hb2
           have HB2 : Hid (Below w.heap.size w w2) := HB1.out.trans (hb2.mono (by have := HS1.out; show w.heap.size ≤ w1.heap.size; omega))
           have HS2 : Hid (w.heap.size < w2.heap.size) := by have h1 := HS1.out; have h2 : w1.heap.size ≤ w2.heap.size := hb2.size; exact Nat.lt_of_lt_of_le h1 h2
           have d0 : w2.cell? ⟨w.heap.size, 0, none⟩ = some (.int .i64 k) := (hb2.cell (p := ⟨w.heap.size, 0, none⟩) HS1.out).trans c0
           have d1 : w2.cell? ⟨w.heap.size, 1, none⟩ = some (.int .i64 n) := (hb2.cell (p := ⟨w.heap.size, 1, none⟩) HS1.out).trans c1
           have d2 : w2.cell? ⟨w.heap.size, 2, none⟩ = some (.int .i64 0) := (hb2.cell (p := ⟨w.heap.size, 2, none⟩) HS1.out).trans c2
           have d3 : w2.cell? ⟨w.heap.size, 3, none⟩ = some (.string s) := (hb2.cell (p := ⟨w.heap.size, 3, none⟩) HS1.out).trans c3
           clear hb2)
        | (go_at_call 37
           refine (formOk_number _ _ _).mono ?_
           rintro e w3 ⟨rfl, hb3⟩
           have HB3 : Hid (Below w.heap.size w w3) := HB2.out.trans (hb3.mono (by have := HS2.out; omega))
           have f0 : w3.cell? ⟨w.heap.size, 0, none⟩ = some (.int .i64 k) := (hb3.cell (p := ⟨w.heap.size, 0, none⟩) HS2.out).trans d0
           have f1 : w3.cell? ⟨w.heap.size, 1, none⟩ = some (.int .i64 n) := (hb3.cell (p := ⟨w.heap.size, 1, none⟩) HS2.out).trans d1
           have f2 : w3.cell? ⟨w.heap.size, 2, none⟩ = some (.int .i64 0) := (hb3.cell (p := ⟨w.heap.size, 2, none⟩) HS2.out).trans d2
           have f3 : w3.cell? ⟨w.heap.size, 3, none⟩ = some (.string s) := (hb3.cell (p := ⟨w.heap.size, 3, none⟩) HS2.out).trans d3
           clear hb3))))
      | (exact absurd rfl (by assumption))
    all_goals go_wp2
    all_goals go_ret
    all_goals exact ⟨ret_bool (by rw [HO.out]; simp [hem]), HB2.out⟩
  have hem : emptyB s = true := by simp [emptyB, hes]
  go_wp2_with fail
  first
    | (go_region_with
    ((first
      | (go_at_call 121
         refine (asOp_number _ _ _).mono ?_
         rintro e w2 ⟨rfl, hb2⟩
         have hb2 : Below w1.heap.size w1 w2 := below_undrew hb2
         have HB2 : Hid (Below w.heap.size w w2) := HB1.out.trans (hb2.mono (by have := HS1.out; show w.heap.size ≤ w1.heap.size; omega))
         have HS2 : Hid (w.heap.size < w2.heap.size) := by have h1 := HS1.out; have h2 : w1.heap.size ≤ w2.heap.size := hb2.size; exact Nat.lt_of_lt_of_le h1 h2
         have d0 : w2.cell? ⟨w.heap.size, 0, none⟩ = some (.int .i64 k) := (hb2.cell (p := ⟨w.heap.size, 0, none⟩) HS1.out).trans c0
         have d1 : w2.cell? ⟨w.heap.size, 1, none⟩ = some (.int .i64 n) := (hb2.cell (p := ⟨w.heap.size, 1, none⟩) HS1.out).trans c1
         have d2 : w2.cell? ⟨w.heap.size, 2, none⟩ = some (.int .i64 0) := (hb2.cell (p := ⟨w.heap.size, 2, none⟩) HS1.out).trans c2
         have d3 : w2.cell? ⟨w.heap.size, 3, none⟩ = some (.string s) := (hb2.cell (p := ⟨w.heap.size, 3, none⟩) HS1.out).trans c3
         clear hb2)
      | (go_at_call 37
         refine (formOk_number _ _ _).mono ?_
         rintro e w3 ⟨rfl, hb3⟩
         have HB3 : Hid (Below w.heap.size w w3) := HB2.out.trans (hb3.mono (by have := HS2.out; omega))
         have f0 : w3.cell? ⟨w.heap.size, 0, none⟩ = some (.int .i64 k) := (hb3.cell (p := ⟨w.heap.size, 0, none⟩) HS2.out).trans d0
         have f1 : w3.cell? ⟨w.heap.size, 1, none⟩ = some (.int .i64 n) := (hb3.cell (p := ⟨w.heap.size, 1, none⟩) HS2.out).trans d1
         have f2 : w3.cell? ⟨w.heap.size, 2, none⟩ = some (.int .i64 0) := (hb3.cell (p := ⟨w.heap.size, 2, none⟩) HS2.out).trans d2
         have f3 : w3.cell? ⟨w.heap.size, 3, none⟩ = some (.string s) := (hb3.cell (p := ⟨w.heap.size, 3, none⟩) HS2.out).trans d3
         clear hb3))))
    | (exact absurd rfl (by assumption))
  all_goals go_wp2
  all_goals go_ret
  all_goals exact ⟨ret_bool (by rw [HO.out]; simp_all), HB3.out⟩

set_option maxHeartbeats 4000000 in
theorem implOp_wait (k n m : Int) (s : ByteArray) (w : World) (hk : isWait k) :
    Calls Tryz.prog 21 #[.agg #[.int .i64 k, .int .i64 n, .int .i64 m, .string s]] w fun e w' => e = .returned (.bool (opB k n m s)) ∧ Below w.heap.size w w' := by
  have HO : Hid (opB k n m s = (inB n 1 1000 && inB m (-1) 1000 && emptyB s)) := opB_wait hk
  have HK : Hid (isWait k) := hk
  clear hk
  go_enter Tryz.func21, Tryz.ntmps21
  go_wp2_with fail
  refine (formOf_wait k n m s _ HK.out).mono ?_
  rintro e w1 ⟨rfl, hb1⟩
  have c0 : w1.cell? ⟨w.heap.size, 0, none⟩ = some (.int .i64 k) := cells_below hb1 0
  have c1 : w1.cell? ⟨w.heap.size, 1, none⟩ = some (.int .i64 n) := cells_below hb1 1
  have c2 : w1.cell? ⟨w.heap.size, 2, none⟩ = some (.int .i64 m) := cells_below hb1 2
  have c3 : w1.cell? ⟨w.heap.size, 3, none⟩ = some (.string s) := cells_below hb1 3
  have HB1 : Hid (Below w.heap.size w w1) := ((Below.refl _ _).alloc (Nat.le_refl _) _).trans (hb1.mono (by simp))
  have HS1 : Hid (w.heap.size < w1.heap.size) := by have := hb1.size; simp only [World.size_alloc] at this; exact this
  clear hb1
  by_cases hes : s.toList = []
  rotate_left
  · have hes' : ¬ [] = s.toList := fun h => hes h.symm
    have hem : emptyB s = false := by simp [emptyB, hes]
    go_wp2_with fail
    first
      | (go_region_with
      ((first
        | (go_at_call 122
           refine (asOp_wait _ _ _ _).mono ?_
           rintro e w2 ⟨rfl, hb2⟩
           have hb2 : Below w1.heap.size w1 w2 := below_undrew hb2
           have HB2 : Hid (Below w.heap.size w w2) := HB1.out.trans (hb2.mono (by have := HS1.out; show w.heap.size ≤ w1.heap.size; omega))
           have HS2 : Hid (w.heap.size < w2.heap.size) := by have h1 := HS1.out; have h2 : w1.heap.size ≤ w2.heap.size := hb2.size; exact Nat.lt_of_lt_of_le h1 h2
           have d0 : w2.cell? ⟨w.heap.size, 0, none⟩ = some (.int .i64 k) := (hb2.cell (p := ⟨w.heap.size, 0, none⟩) HS1.out).trans c0
           have d1 : w2.cell? ⟨w.heap.size, 1, none⟩ = some (.int .i64 n) := (hb2.cell (p := ⟨w.heap.size, 1, none⟩) HS1.out).trans c1
           have d2 : w2.cell? ⟨w.heap.size, 2, none⟩ = some (.int .i64 m) := (hb2.cell (p := ⟨w.heap.size, 2, none⟩) HS1.out).trans c2
           have d3 : w2.cell? ⟨w.heap.size, 3, none⟩ = some (.string s) := (hb2.cell (p := ⟨w.heap.size, 3, none⟩) HS1.out).trans c3
           clear hb2)
        | (go_at_call 37
           refine (formOk_wait _ _ _ _).mono ?_
           rintro e w3 ⟨rfl, hb3⟩
           have HB3 : Hid (Below w.heap.size w w3) := HB2.out.trans (hb3.mono (by have := HS2.out; omega))
           have f0 : w3.cell? ⟨w.heap.size, 0, none⟩ = some (.int .i64 k) := (hb3.cell (p := ⟨w.heap.size, 0, none⟩) HS2.out).trans d0
           have f1 : w3.cell? ⟨w.heap.size, 1, none⟩ = some (.int .i64 n) := (hb3.cell (p := ⟨w.heap.size, 1, none⟩) HS2.out).trans d1
           have f2 : w3.cell? ⟨w.heap.size, 2, none⟩ = some (.int .i64 m) := (hb3.cell (p := ⟨w.heap.size, 2, none⟩) HS2.out).trans d2
           have f3 : w3.cell? ⟨w.heap.size, 3, none⟩ = some (.string s) := (hb3.cell (p := ⟨w.heap.size, 3, none⟩) HS2.out).trans d3
           clear hb3))))
      | (exact absurd rfl (by assumption))
    all_goals go_wp2
    all_goals go_ret
    all_goals exact ⟨ret_bool (by rw [HO.out]; simp [hem]), HB2.out⟩
  have hem : emptyB s = true := by simp [emptyB, hes]
  go_wp2_with fail
  first
    | (go_region_with
    ((first
      | (go_at_call 122
         refine (asOp_wait _ _ _ _).mono ?_
         rintro e w2 ⟨rfl, hb2⟩
         have hb2 : Below w1.heap.size w1 w2 := below_undrew hb2
         have HB2 : Hid (Below w.heap.size w w2) := HB1.out.trans (hb2.mono (by have := HS1.out; show w.heap.size ≤ w1.heap.size; omega))
         have HS2 : Hid (w.heap.size < w2.heap.size) := by have h1 := HS1.out; have h2 : w1.heap.size ≤ w2.heap.size := hb2.size; exact Nat.lt_of_lt_of_le h1 h2
         have d0 : w2.cell? ⟨w.heap.size, 0, none⟩ = some (.int .i64 k) := (hb2.cell (p := ⟨w.heap.size, 0, none⟩) HS1.out).trans c0
         have d1 : w2.cell? ⟨w.heap.size, 1, none⟩ = some (.int .i64 n) := (hb2.cell (p := ⟨w.heap.size, 1, none⟩) HS1.out).trans c1
         have d2 : w2.cell? ⟨w.heap.size, 2, none⟩ = some (.int .i64 m) := (hb2.cell (p := ⟨w.heap.size, 2, none⟩) HS1.out).trans c2
         have d3 : w2.cell? ⟨w.heap.size, 3, none⟩ = some (.string s) := (hb2.cell (p := ⟨w.heap.size, 3, none⟩) HS1.out).trans c3
         clear hb2)
      | (go_at_call 37
         refine (formOk_wait _ _ _ _).mono ?_
         rintro e w3 ⟨rfl, hb3⟩
         have HB3 : Hid (Below w.heap.size w w3) := HB2.out.trans (hb3.mono (by have := HS2.out; omega))
         have f0 : w3.cell? ⟨w.heap.size, 0, none⟩ = some (.int .i64 k) := (hb3.cell (p := ⟨w.heap.size, 0, none⟩) HS2.out).trans d0
         have f1 : w3.cell? ⟨w.heap.size, 1, none⟩ = some (.int .i64 n) := (hb3.cell (p := ⟨w.heap.size, 1, none⟩) HS2.out).trans d1
         have f2 : w3.cell? ⟨w.heap.size, 2, none⟩ = some (.int .i64 m) := (hb3.cell (p := ⟨w.heap.size, 2, none⟩) HS2.out).trans d2
         have f3 : w3.cell? ⟨w.heap.size, 3, none⟩ = some (.string s) := (hb3.cell (p := ⟨w.heap.size, 3, none⟩) HS2.out).trans d3
         clear hb3))))
    | (exact absurd rfl (by assumption))
  all_goals go_wp2
  all_goals go_ret
  all_goals exact ⟨ret_bool (by rw [HO.out]; simp_all), HB3.out⟩

set_option maxHeartbeats 4000000 in
theorem implOp_send (k n m : Int) (s : ByteArray) (w : World) (hs : s.size ≤ 1048576) (hk : k = 8) :
    Calls Tryz.prog 21 #[.agg #[.int .i64 k, .int .i64 n, .int .i64 m, .string s]] w fun e w' => e = .returned (.bool (opB k n m s)) ∧ Below w.heap.size w w' := by
  have HO : Hid (opB k n m s = (inB n 1 1000 && inB m (-1) 1000 && plainB s)) := opB_send hk
  have HK : Hid (k = 8) := hk
  clear hk
  go_enter Tryz.func21, Tryz.ntmps21
  go_wp2_with fail
  refine (formOf_send k n m s _ HK.out).mono ?_
  rintro e w1 ⟨rfl, hb1⟩
  have c0 : w1.cell? ⟨w.heap.size, 0, none⟩ = some (.int .i64 k) := cells_below hb1 0
  have c1 : w1.cell? ⟨w.heap.size, 1, none⟩ = some (.int .i64 n) := cells_below hb1 1
  have c2 : w1.cell? ⟨w.heap.size, 2, none⟩ = some (.int .i64 m) := cells_below hb1 2
  have c3 : w1.cell? ⟨w.heap.size, 3, none⟩ = some (.string s) := cells_below hb1 3
  have HB1 : Hid (Below w.heap.size w w1) := ((Below.refl _ _).alloc (Nat.le_refl _) _).trans (hb1.mono (by simp))
  have HS1 : Hid (w.heap.size < w1.heap.size) := by have := hb1.size; simp only [World.size_alloc] at this; exact this
  clear hb1
  go_wp2_with fail
  first
    | (go_region_with
    ((first
      | (go_at_call 123
         refine (asOp_send _ _ _ _ _).mono ?_
         rintro e w2 ⟨rfl, hb2⟩
         have hb2 : Below w1.heap.size w1 w2 := below_undrew hb2
         have HB2 : Hid (Below w.heap.size w w2) := HB1.out.trans (hb2.mono (by have := HS1.out; show w.heap.size ≤ w1.heap.size; omega))
         have HS2 : Hid (w.heap.size < w2.heap.size) := by have h1 := HS1.out; have h2 : w1.heap.size ≤ w2.heap.size := hb2.size; exact Nat.lt_of_lt_of_le h1 h2
         have d0 : w2.cell? ⟨w.heap.size, 0, none⟩ = some (.int .i64 k) := (hb2.cell (p := ⟨w.heap.size, 0, none⟩) HS1.out).trans c0
         have d1 : w2.cell? ⟨w.heap.size, 1, none⟩ = some (.int .i64 n) := (hb2.cell (p := ⟨w.heap.size, 1, none⟩) HS1.out).trans c1
         have d2 : w2.cell? ⟨w.heap.size, 2, none⟩ = some (.int .i64 m) := (hb2.cell (p := ⟨w.heap.size, 2, none⟩) HS1.out).trans c2
         have d3 : w2.cell? ⟨w.heap.size, 3, none⟩ = some (.string s) := (hb2.cell (p := ⟨w.heap.size, 3, none⟩) HS1.out).trans c3
         clear hb2)
      | (go_at_call 37
         refine (formOk_send _ _ _ _ _ hs).mono ?_
         rintro e w3 ⟨rfl, hb3⟩
         have HB3 : Hid (Below w.heap.size w w3) := HB2.out.trans (hb3.mono (by have := HS2.out; omega))
         have f0 : w3.cell? ⟨w.heap.size, 0, none⟩ = some (.int .i64 k) := (hb3.cell (p := ⟨w.heap.size, 0, none⟩) HS2.out).trans d0
         have f1 : w3.cell? ⟨w.heap.size, 1, none⟩ = some (.int .i64 n) := (hb3.cell (p := ⟨w.heap.size, 1, none⟩) HS2.out).trans d1
         have f2 : w3.cell? ⟨w.heap.size, 2, none⟩ = some (.int .i64 m) := (hb3.cell (p := ⟨w.heap.size, 2, none⟩) HS2.out).trans d2
         have f3 : w3.cell? ⟨w.heap.size, 3, none⟩ = some (.string s) := (hb3.cell (p := ⟨w.heap.size, 3, none⟩) HS2.out).trans d3
         clear hb3))))
    | (exact absurd rfl (by assumption))
  all_goals go_wp2
  all_goals go_ret
  all_goals exact ⟨ret_bool (by rw [HO.out]), HB3.out⟩

set_option maxHeartbeats 4000000 in
theorem implOp_text (k n m : Int) (s : ByteArray) (w : World) (hs : s.size ≤ 1048576) (hk : isText k) :
    Calls Tryz.prog 21 #[.agg #[.int .i64 k, .int .i64 n, .int .i64 m, .string s]] w fun e w' => e = .returned (.bool (opB k n m s)) ∧ Below w.heap.size w w' := by
  have HO : Hid (opB k n m s = (inB n 1 1000 && decide (m = 0) && plainB s)) := opB_text hk
  have HK : Hid (isText k) := hk
  clear hk
  go_enter Tryz.func21, Tryz.ntmps21
  go_wp2_with fail
  refine (formOf_text k n m s _ HK.out).mono ?_
  rintro e w1 ⟨rfl, hb1⟩
  have c0 : w1.cell? ⟨w.heap.size, 0, none⟩ = some (.int .i64 k) := cells_below hb1 0
  have c1 : w1.cell? ⟨w.heap.size, 1, none⟩ = some (.int .i64 n) := cells_below hb1 1
  have c2 : w1.cell? ⟨w.heap.size, 2, none⟩ = some (.int .i64 m) := cells_below hb1 2
  have c3 : w1.cell? ⟨w.heap.size, 3, none⟩ = some (.string s) := cells_below hb1 3
  have HB1 : Hid (Below w.heap.size w w1) := ((Below.refl _ _).alloc (Nat.le_refl _) _).trans (hb1.mono (by simp))
  have HS1 : Hid (w.heap.size < w1.heap.size) := by have := hb1.size; simp only [World.size_alloc] at this; exact this
  clear hb1
  by_cases hm : m = 0
  rotate_left
  · have hm' : ¬ 0 = m := fun h => hm h.symm
    go_wp2_with fail
    first
      | (go_region_with
      ((first
        | (go_at_call 124
           refine (asOp_text _ _ _ _).mono ?_
           rintro e w2 ⟨rfl, hb2⟩
           have hb2 : Below w1.heap.size w1 w2 := below_undrew hb2
           have HB2 : Hid (Below w.heap.size w w2) := HB1.out.trans (hb2.mono (by have := HS1.out; show w.heap.size ≤ w1.heap.size; omega))
           have HS2 : Hid (w.heap.size < w2.heap.size) := by have h1 := HS1.out; have h2 : w1.heap.size ≤ w2.heap.size := hb2.size; exact Nat.lt_of_lt_of_le h1 h2
           have d0 : w2.cell? ⟨w.heap.size, 0, none⟩ = some (.int .i64 k) := (hb2.cell (p := ⟨w.heap.size, 0, none⟩) HS1.out).trans c0
           have d1 : w2.cell? ⟨w.heap.size, 1, none⟩ = some (.int .i64 n) := (hb2.cell (p := ⟨w.heap.size, 1, none⟩) HS1.out).trans c1
           have d2 : w2.cell? ⟨w.heap.size, 2, none⟩ = some (.int .i64 m) := (hb2.cell (p := ⟨w.heap.size, 2, none⟩) HS1.out).trans c2
           have d3 : w2.cell? ⟨w.heap.size, 3, none⟩ = some (.string s) := (hb2.cell (p := ⟨w.heap.size, 3, none⟩) HS1.out).trans c3
           clear hb2)
        | (go_at_call 37
           refine (formOk_text _ _ _ _ hs).mono ?_
           rintro e w3 ⟨rfl, hb3⟩
           have HB3 : Hid (Below w.heap.size w w3) := HB2.out.trans (hb3.mono (by have := HS2.out; omega))
           have f0 : w3.cell? ⟨w.heap.size, 0, none⟩ = some (.int .i64 k) := (hb3.cell (p := ⟨w.heap.size, 0, none⟩) HS2.out).trans d0
           have f1 : w3.cell? ⟨w.heap.size, 1, none⟩ = some (.int .i64 n) := (hb3.cell (p := ⟨w.heap.size, 1, none⟩) HS2.out).trans d1
           have f2 : w3.cell? ⟨w.heap.size, 2, none⟩ = some (.int .i64 m) := (hb3.cell (p := ⟨w.heap.size, 2, none⟩) HS2.out).trans d2
           have f3 : w3.cell? ⟨w.heap.size, 3, none⟩ = some (.string s) := (hb3.cell (p := ⟨w.heap.size, 3, none⟩) HS2.out).trans d3
           clear hb3))))
      | (exact absurd rfl (by assumption))
    all_goals go_wp2
    all_goals go_ret
    all_goals exact ⟨ret_bool (by rw [HO.out]; simp [hm]), HB2.out⟩
  subst hm
  go_wp2_with fail
  first
    | (go_region_with
    ((first
      | (go_at_call 124
         refine (asOp_text _ _ _ _).mono ?_
         rintro e w2 ⟨rfl, hb2⟩
         have hb2 : Below w1.heap.size w1 w2 := below_undrew hb2
         have HB2 : Hid (Below w.heap.size w w2) := HB1.out.trans (hb2.mono (by have := HS1.out; show w.heap.size ≤ w1.heap.size; omega))
         have HS2 : Hid (w.heap.size < w2.heap.size) := by have h1 := HS1.out; have h2 : w1.heap.size ≤ w2.heap.size := hb2.size; exact Nat.lt_of_lt_of_le h1 h2
         have d0 : w2.cell? ⟨w.heap.size, 0, none⟩ = some (.int .i64 k) := (hb2.cell (p := ⟨w.heap.size, 0, none⟩) HS1.out).trans c0
         have d1 : w2.cell? ⟨w.heap.size, 1, none⟩ = some (.int .i64 n) := (hb2.cell (p := ⟨w.heap.size, 1, none⟩) HS1.out).trans c1
         have d2 : w2.cell? ⟨w.heap.size, 2, none⟩ = some (.int .i64 0) := (hb2.cell (p := ⟨w.heap.size, 2, none⟩) HS1.out).trans c2
         have d3 : w2.cell? ⟨w.heap.size, 3, none⟩ = some (.string s) := (hb2.cell (p := ⟨w.heap.size, 3, none⟩) HS1.out).trans c3
         clear hb2)
      | (go_at_call 37
         refine (formOk_text _ _ _ _ hs).mono ?_
         rintro e w3 ⟨rfl, hb3⟩
         have HB3 : Hid (Below w.heap.size w w3) := HB2.out.trans (hb3.mono (by have := HS2.out; omega))
         have f0 : w3.cell? ⟨w.heap.size, 0, none⟩ = some (.int .i64 k) := (hb3.cell (p := ⟨w.heap.size, 0, none⟩) HS2.out).trans d0
         have f1 : w3.cell? ⟨w.heap.size, 1, none⟩ = some (.int .i64 n) := (hb3.cell (p := ⟨w.heap.size, 1, none⟩) HS2.out).trans d1
         have f2 : w3.cell? ⟨w.heap.size, 2, none⟩ = some (.int .i64 0) := (hb3.cell (p := ⟨w.heap.size, 2, none⟩) HS2.out).trans d2
         have f3 : w3.cell? ⟨w.heap.size, 3, none⟩ = some (.string s) := (hb3.cell (p := ⟨w.heap.size, 3, none⟩) HS2.out).trans d3
         clear hb3))))
    | (exact absurd rfl (by assumption))
  all_goals go_wp2
  all_goals go_ret
  all_goals exact ⟨ret_bool (by rw [HO.out]; simp_all), HB3.out⟩

set_option maxHeartbeats 4000000 in
theorem implOp_loop (k n m : Int) (s : ByteArray) (w : World) (hk : k = 17) :
    Calls Tryz.prog 21 #[.agg #[.int .i64 k, .int .i64 n, .int .i64 m, .string s]] w fun e w' => e = .returned (.bool (opB k n m s)) ∧ Below w.heap.size w w' := by
  have HO : Hid (opB k n m s = (decide (n = 0) && decide (m = 0) && emptyB s)) := opB_loop hk
  have HK : Hid (k = 17) := hk
  clear hk
  go_enter Tryz.func21, Tryz.ntmps21
  go_wp2_with fail
  refine (formOf_loop k n m s _ HK.out).mono ?_
  rintro e w1 ⟨rfl, hb1⟩
  have c0 : w1.cell? ⟨w.heap.size, 0, none⟩ = some (.int .i64 k) := cells_below hb1 0
  have c1 : w1.cell? ⟨w.heap.size, 1, none⟩ = some (.int .i64 n) := cells_below hb1 1
  have c2 : w1.cell? ⟨w.heap.size, 2, none⟩ = some (.int .i64 m) := cells_below hb1 2
  have c3 : w1.cell? ⟨w.heap.size, 3, none⟩ = some (.string s) := cells_below hb1 3
  have HB1 : Hid (Below w.heap.size w w1) := ((Below.refl _ _).alloc (Nat.le_refl _) _).trans (hb1.mono (by simp))
  have HS1 : Hid (w.heap.size < w1.heap.size) := by have := hb1.size; simp only [World.size_alloc] at this; exact this
  clear hb1
  by_cases hn : n = 0
  rotate_left
  · have hn' : ¬ 0 = n := fun h => hn h.symm
    go_wp2_with fail
    first
      | (go_region_with
      ((first
        | (go_at_call 125
           refine (asOp_bare _ _).mono ?_
           rintro e w2 ⟨rfl, hb2⟩
           have hb2 : Below w1.heap.size w1 w2 := below_undrew hb2
           have HB2 : Hid (Below w.heap.size w w2) := HB1.out.trans (hb2.mono (by have := HS1.out; show w.heap.size ≤ w1.heap.size; omega))
           have HS2 : Hid (w.heap.size < w2.heap.size) := by have h1 := HS1.out; have h2 : w1.heap.size ≤ w2.heap.size := hb2.size; exact Nat.lt_of_lt_of_le h1 h2
           have d0 : w2.cell? ⟨w.heap.size, 0, none⟩ = some (.int .i64 k) := (hb2.cell (p := ⟨w.heap.size, 0, none⟩) HS1.out).trans c0
           have d1 : w2.cell? ⟨w.heap.size, 1, none⟩ = some (.int .i64 n) := (hb2.cell (p := ⟨w.heap.size, 1, none⟩) HS1.out).trans c1
           have d2 : w2.cell? ⟨w.heap.size, 2, none⟩ = some (.int .i64 m) := (hb2.cell (p := ⟨w.heap.size, 2, none⟩) HS1.out).trans c2
           have d3 : w2.cell? ⟨w.heap.size, 3, none⟩ = some (.string s) := (hb2.cell (p := ⟨w.heap.size, 3, none⟩) HS1.out).trans c3
           clear hb2)
        | (go_at_call 37
           refine (formOk_bare _ _).mono ?_
           rintro e w3 ⟨rfl, hb3⟩
           have HB3 : Hid (Below w.heap.size w w3) := HB2.out.trans (hb3.mono (by have := HS2.out; omega))
           have f0 : w3.cell? ⟨w.heap.size, 0, none⟩ = some (.int .i64 k) := (hb3.cell (p := ⟨w.heap.size, 0, none⟩) HS2.out).trans d0
           have f1 : w3.cell? ⟨w.heap.size, 1, none⟩ = some (.int .i64 n) := (hb3.cell (p := ⟨w.heap.size, 1, none⟩) HS2.out).trans d1
           have f2 : w3.cell? ⟨w.heap.size, 2, none⟩ = some (.int .i64 m) := (hb3.cell (p := ⟨w.heap.size, 2, none⟩) HS2.out).trans d2
           have f3 : w3.cell? ⟨w.heap.size, 3, none⟩ = some (.string s) := (hb3.cell (p := ⟨w.heap.size, 3, none⟩) HS2.out).trans d3
           clear hb3))))
      | (exact absurd rfl (by assumption))
    all_goals go_wp2
    all_goals go_ret
    all_goals exact ⟨ret_bool (by rw [HO.out]; simp [hn]), HB2.out⟩
  subst hn
  by_cases hm : m = 0
  rotate_left
  · have hm' : ¬ 0 = m := fun h => hm h.symm
    go_wp2_with fail
    first
      | (go_region_with
      ((first
        | (go_at_call 125
           refine (asOp_bare _ _).mono ?_
           rintro e w2 ⟨rfl, hb2⟩
           have hb2 : Below w1.heap.size w1 w2 := below_undrew hb2
           have HB2 : Hid (Below w.heap.size w w2) := HB1.out.trans (hb2.mono (by have := HS1.out; show w.heap.size ≤ w1.heap.size; omega))
           have HS2 : Hid (w.heap.size < w2.heap.size) := by have h1 := HS1.out; have h2 : w1.heap.size ≤ w2.heap.size := hb2.size; exact Nat.lt_of_lt_of_le h1 h2
           have d0 : w2.cell? ⟨w.heap.size, 0, none⟩ = some (.int .i64 k) := (hb2.cell (p := ⟨w.heap.size, 0, none⟩) HS1.out).trans c0
           have d1 : w2.cell? ⟨w.heap.size, 1, none⟩ = some (.int .i64 0) := (hb2.cell (p := ⟨w.heap.size, 1, none⟩) HS1.out).trans c1
           have d2 : w2.cell? ⟨w.heap.size, 2, none⟩ = some (.int .i64 m) := (hb2.cell (p := ⟨w.heap.size, 2, none⟩) HS1.out).trans c2
           have d3 : w2.cell? ⟨w.heap.size, 3, none⟩ = some (.string s) := (hb2.cell (p := ⟨w.heap.size, 3, none⟩) HS1.out).trans c3
           clear hb2)
        | (go_at_call 37
           refine (formOk_bare _ _).mono ?_
           rintro e w3 ⟨rfl, hb3⟩
           have HB3 : Hid (Below w.heap.size w w3) := HB2.out.trans (hb3.mono (by have := HS2.out; omega))
           have f0 : w3.cell? ⟨w.heap.size, 0, none⟩ = some (.int .i64 k) := (hb3.cell (p := ⟨w.heap.size, 0, none⟩) HS2.out).trans d0
           have f1 : w3.cell? ⟨w.heap.size, 1, none⟩ = some (.int .i64 0) := (hb3.cell (p := ⟨w.heap.size, 1, none⟩) HS2.out).trans d1
           have f2 : w3.cell? ⟨w.heap.size, 2, none⟩ = some (.int .i64 m) := (hb3.cell (p := ⟨w.heap.size, 2, none⟩) HS2.out).trans d2
           have f3 : w3.cell? ⟨w.heap.size, 3, none⟩ = some (.string s) := (hb3.cell (p := ⟨w.heap.size, 3, none⟩) HS2.out).trans d3
           clear hb3))))
      | (exact absurd rfl (by assumption))
    all_goals go_wp2
    all_goals go_ret
    all_goals exact ⟨ret_bool (by rw [HO.out]; simp [hm]), HB2.out⟩
  subst hm
  by_cases hes : s.toList = []
  rotate_left
  · have hes' : ¬ [] = s.toList := fun h => hes h.symm
    have hem : emptyB s = false := by simp [emptyB, hes]
    go_wp2_with fail
    first
      | (go_region_with
      ((first
        | (go_at_call 125
           refine (asOp_bare _ _).mono ?_
           rintro e w2 ⟨rfl, hb2⟩
           have hb2 : Below w1.heap.size w1 w2 := below_undrew hb2
           have HB2 : Hid (Below w.heap.size w w2) := HB1.out.trans (hb2.mono (by have := HS1.out; show w.heap.size ≤ w1.heap.size; omega))
           have HS2 : Hid (w.heap.size < w2.heap.size) := by have h1 := HS1.out; have h2 : w1.heap.size ≤ w2.heap.size := hb2.size; exact Nat.lt_of_lt_of_le h1 h2
           have d0 : w2.cell? ⟨w.heap.size, 0, none⟩ = some (.int .i64 k) := (hb2.cell (p := ⟨w.heap.size, 0, none⟩) HS1.out).trans c0
           have d1 : w2.cell? ⟨w.heap.size, 1, none⟩ = some (.int .i64 0) := (hb2.cell (p := ⟨w.heap.size, 1, none⟩) HS1.out).trans c1
           have d2 : w2.cell? ⟨w.heap.size, 2, none⟩ = some (.int .i64 0) := (hb2.cell (p := ⟨w.heap.size, 2, none⟩) HS1.out).trans c2
           have d3 : w2.cell? ⟨w.heap.size, 3, none⟩ = some (.string s) := (hb2.cell (p := ⟨w.heap.size, 3, none⟩) HS1.out).trans c3
           clear hb2)
        | (go_at_call 37
           refine (formOk_bare _ _).mono ?_
           rintro e w3 ⟨rfl, hb3⟩
           have HB3 : Hid (Below w.heap.size w w3) := HB2.out.trans (hb3.mono (by have := HS2.out; omega))
           have f0 : w3.cell? ⟨w.heap.size, 0, none⟩ = some (.int .i64 k) := (hb3.cell (p := ⟨w.heap.size, 0, none⟩) HS2.out).trans d0
           have f1 : w3.cell? ⟨w.heap.size, 1, none⟩ = some (.int .i64 0) := (hb3.cell (p := ⟨w.heap.size, 1, none⟩) HS2.out).trans d1
           have f2 : w3.cell? ⟨w.heap.size, 2, none⟩ = some (.int .i64 0) := (hb3.cell (p := ⟨w.heap.size, 2, none⟩) HS2.out).trans d2
           have f3 : w3.cell? ⟨w.heap.size, 3, none⟩ = some (.string s) := (hb3.cell (p := ⟨w.heap.size, 3, none⟩) HS2.out).trans d3
           clear hb3))))
      | (exact absurd rfl (by assumption))
    all_goals go_wp2
    all_goals go_ret
    all_goals exact ⟨ret_bool (by rw [HO.out]; simp [hem]), HB2.out⟩
  have hem : emptyB s = true := by simp [emptyB, hes]
  go_wp2_with fail
  first
    | (go_region_with
    ((first
      | (go_at_call 125
         refine (asOp_bare _ _).mono ?_
         rintro e w2 ⟨rfl, hb2⟩
         have hb2 : Below w1.heap.size w1 w2 := below_undrew hb2
         have HB2 : Hid (Below w.heap.size w w2) := HB1.out.trans (hb2.mono (by have := HS1.out; show w.heap.size ≤ w1.heap.size; omega))
         have HS2 : Hid (w.heap.size < w2.heap.size) := by have h1 := HS1.out; have h2 : w1.heap.size ≤ w2.heap.size := hb2.size; exact Nat.lt_of_lt_of_le h1 h2
         have d0 : w2.cell? ⟨w.heap.size, 0, none⟩ = some (.int .i64 k) := (hb2.cell (p := ⟨w.heap.size, 0, none⟩) HS1.out).trans c0
         have d1 : w2.cell? ⟨w.heap.size, 1, none⟩ = some (.int .i64 0) := (hb2.cell (p := ⟨w.heap.size, 1, none⟩) HS1.out).trans c1
         have d2 : w2.cell? ⟨w.heap.size, 2, none⟩ = some (.int .i64 0) := (hb2.cell (p := ⟨w.heap.size, 2, none⟩) HS1.out).trans c2
         have d3 : w2.cell? ⟨w.heap.size, 3, none⟩ = some (.string s) := (hb2.cell (p := ⟨w.heap.size, 3, none⟩) HS1.out).trans c3
         clear hb2)
      | (go_at_call 37
         refine (formOk_bare _ _).mono ?_
         rintro e w3 ⟨rfl, hb3⟩
         have HB3 : Hid (Below w.heap.size w w3) := HB2.out.trans (hb3.mono (by have := HS2.out; omega))
         have f0 : w3.cell? ⟨w.heap.size, 0, none⟩ = some (.int .i64 k) := (hb3.cell (p := ⟨w.heap.size, 0, none⟩) HS2.out).trans d0
         have f1 : w3.cell? ⟨w.heap.size, 1, none⟩ = some (.int .i64 0) := (hb3.cell (p := ⟨w.heap.size, 1, none⟩) HS2.out).trans d1
         have f2 : w3.cell? ⟨w.heap.size, 2, none⟩ = some (.int .i64 0) := (hb3.cell (p := ⟨w.heap.size, 2, none⟩) HS2.out).trans d2
         have f3 : w3.cell? ⟨w.heap.size, 3, none⟩ = some (.string s) := (hb3.cell (p := ⟨w.heap.size, 3, none⟩) HS2.out).trans d3
         clear hb3))))
    | (exact absurd rfl (by assumption))
  all_goals go_wp2
  all_goals go_ret
  all_goals exact ⟨ret_bool (by rw [HO.out]; simp_all), HB3.out⟩

set_option maxHeartbeats 4000000 in
theorem implOp_none (k n m : Int) (s : ByteArray) (w : World) (hk : ¬ (1 ≤ k ∧ k ≤ 17)) :
    Calls Tryz.prog 21 #[.agg #[.int .i64 k, .int .i64 n, .int .i64 m, .string s]] w fun e w' => e = .returned (.bool (opB k n m s)) ∧ Below w.heap.size w w' := by
  rw [opB_none hk]
  go_enter Tryz.func21, Tryz.ntmps21
  go_wp2_with fail
  refine (formOf_none k n m s _ hk).mono ?_
  rintro e w1 ⟨rfl, hb1⟩
  have HB1 : Hid (Below w.heap.size w w1) := ((Below.refl _ _).alloc (Nat.le_refl _) _).trans (hb1.mono (by simp))
  clear hb1
  go_wp2_with fail
  go_quiet (fail)
  go_wp2
  go_ret
  exact ⟨rfl, below_drewN HB1.out _⟩

theorem implOpOk_any (k n m : Int) (s : ByteArray) (w : World) (hs : s.size ≤ 1048576) :
    Calls Tryz.prog 21 #[.agg #[.int .i64 k, .int .i64 n, .int .i64 m, .string s]] w fun e w' => e = .returned (.bool (opB k n m s)) ∧ Below w.heap.size w w' := by
  by_cases h0 : 1 ≤ k ∧ k ≤ 17
  · by_cases h1 : isNum k
    · exact implOp_num k n m s w h1
    by_cases h2 : isWait k
    · exact implOp_wait k n m s w h2
    by_cases h3 : isText k
    · exact implOp_text k n m s w hs h3
    by_cases h4 : k = 8
    · exact implOp_send k n m s w hs h4
    exact implOp_loop k n m s w (by unfold isNum at h1; unfold isWait at h2; unfold isText at h3; omega)
  · exact implOp_none k n m s w h0

end Go.Proofs.YtlaeilcipibelaaGreatDoor

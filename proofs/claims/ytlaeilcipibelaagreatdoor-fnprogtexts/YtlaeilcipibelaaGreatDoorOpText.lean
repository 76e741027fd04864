/- The text of an op: what the specification writes. -/
import Derived.Test.YtlaeilcipibelaaGreatDoorOpNames
import Derived.Deep.RegionHeld3
namespace Go.Proofs.YtlaeilcipibelaaGreatDoor
open Go.RowKit

set_option maxHeartbeats 4000000 in
theorem l2Text_1 (n m : Int) (s : ByteArray) (w : World) (h1 : 1 ≤ n) (h2 : n ≤ 1000) :
    Calls Tryz.prog 20 #[.agg #[.int .i64 1, .int .i64 n, .int .i64 m, .string s]] w fun e w' => e = .returned (.string (opText 1 n m s)) ∧ Below w.heap.size w w' := by
  have HT : Hid (opText 1 n m s = nameB 1 ++ ⟨#[32]⟩ ++ decB n) := rfl
  have s0 := nameB_size 1
  generalize hN : nameB 1 = N at *
  have HNM : Hid (nameB 1 = N) := hN
  clear hN
  have s1 := decB_size (n := n) (by omega) (by omega)
  have q0 : ¬ 9223372036854775807 < N.size + 1 := by omega
  have q1 : ¬ 9223372036854775807 < N.size + 1 + (decB n).size := by omega
  have HN : Hid (1 ≤ n ∧ n ≤ 1000) := ⟨h1, h2⟩
  clear h1 h2 s0 s1
  go_enter Tryz.func20, Tryz.ntmps20
  go_wp2_with fail
  have b0 : (w.alloc (.cells #[.int .i64 1, .int .i64 n, .int .i64 m, .string s] 37)).cell? ⟨w.heap.size, 0, none⟩ = some (.int .i64 1) := by simp
  have b1 : (w.alloc (.cells #[.int .i64 1, .int .i64 n, .int .i64 m, .string s] 37)).cell? ⟨w.heap.size, 1, none⟩ = some (.int .i64 n) := by simp
  go_region_with (go_at_call 35; refine (l2Names_any _).mono ?_; rintro e w1 ⟨rfl, hn, hb1⟩; have n0 : w1.cell? ⟨w.heap.size + 1, 1, none⟩ = some (.string N) := (by have := hn.one 1 (by omega); rw [← HNM.out]; simpa using this); have b0' : w1.cell? ⟨w.heap.size, 0, none⟩ = some (.int .i64 1) := (hb1.cell (p := ⟨w.heap.size, 0, none⟩) (block_lt_of_cell b0)).trans b0; have b1' : w1.cell? ⟨w.heap.size, 1, none⟩ = some (.int .i64 n) := (hb1.cell (p := ⟨w.heap.size, 1, none⟩) (block_lt_of_cell b1)).trans b1; have HB1 : Hid (Below w.heap.size w w1) := ((((Below.refl _ w).alloc (Nat.le_refl _) _).drew).trans (hb1.mono (by simp))))
  all_goals
    go_wp2_with (go_at_call 36; refine (l1Dec_any n (by have := HN.out; omega) (by have := HN.out; omega) _).mono ?_; rintro e w2 ⟨rfl, hb2⟩; have b0'' : w2.cell? ⟨w.heap.size, 0, none⟩ = some (.int .i64 1) := (hb2.cell (p := ⟨w.heap.size, 0, none⟩) (block_lt_of_cell b0')).trans b0')
    go_ret
    exact ⟨by rw [HT.out]; rfl, HB1.out.trans (hb2.mono HB1.out.size)⟩

set_option maxHeartbeats 4000000 in
theorem l2Text_2 (n m : Int) (s : ByteArray) (w : World) (h1 : 1 ≤ n) (h2 : n ≤ 1000) :
    Calls Tryz.prog 20 #[.agg #[.int .i64 2, .int .i64 n, .int .i64 m, .string s]] w fun e w' => e = .returned (.string (opText 2 n m s)) ∧ Below w.heap.size w w' := by
  have HT : Hid (opText 2 n m s = nameB 2 ++ ⟨#[32]⟩ ++ decB n) := rfl
  have s0 := nameB_size 2
  generalize hN : nameB 2 = N at *
  have HNM : Hid (nameB 2 = N) := hN
  clear hN
  have s1 := decB_size (n := n) (by omega) (by omega)
  have q0 : ¬ 9223372036854775807 < N.size + 1 := by omega
  have q1 : ¬ 9223372036854775807 < N.size + 1 + (decB n).size := by omega
  have HN : Hid (1 ≤ n ∧ n ≤ 1000) := ⟨h1, h2⟩
  clear h1 h2 s0 s1
  go_enter Tryz.func20, Tryz.ntmps20
  go_wp2_with fail
  have b0 : (w.alloc (.cells #[.int .i64 2, .int .i64 n, .int .i64 m, .string s] 37)).cell? ⟨w.heap.size, 0, none⟩ = some (.int .i64 2) := by simp
  have b1 : (w.alloc (.cells #[.int .i64 2, .int .i64 n, .int .i64 m, .string s] 37)).cell? ⟨w.heap.size, 1, none⟩ = some (.int .i64 n) := by simp
  go_region_with (go_at_call 35; refine (l2Names_any _).mono ?_; rintro e w1 ⟨rfl, hn, hb1⟩; have n0 : w1.cell? ⟨w.heap.size + 1, 2, none⟩ = some (.string N) := (by have := hn.one 2 (by omega); rw [← HNM.out]; simpa using this); have b0' : w1.cell? ⟨w.heap.size, 0, none⟩ = some (.int .i64 2) := (hb1.cell (p := ⟨w.heap.size, 0, none⟩) (block_lt_of_cell b0)).trans b0; have b1' : w1.cell? ⟨w.heap.size, 1, none⟩ = some (.int .i64 n) := (hb1.cell (p := ⟨w.heap.size, 1, none⟩) (block_lt_of_cell b1)).trans b1; have HB1 : Hid (Below w.heap.size w w1) := ((((Below.refl _ w).alloc (Nat.le_refl _) _).drew).trans (hb1.mono (by simp))))
  all_goals
    go_wp2_with (go_at_call 36; refine (l1Dec_any n (by have := HN.out; omega) (by have := HN.out; omega) _).mono ?_; rintro e w2 ⟨rfl, hb2⟩; have b0'' : w2.cell? ⟨w.heap.size, 0, none⟩ = some (.int .i64 2) := (hb2.cell (p := ⟨w.heap.size, 0, none⟩) (block_lt_of_cell b0')).trans b0')
    go_ret
    exact ⟨by rw [HT.out]; rfl, HB1.out.trans (hb2.mono HB1.out.size)⟩

set_option maxHeartbeats 4000000 in
theorem l2Text_3 (n m : Int) (s : ByteArray) (w : World) (h1 : 1 ≤ n) (h2 : n ≤ 1000) (h3 : -1 ≤ m) (h4 : m ≤ 1000) :
    Calls Tryz.prog 20 #[.agg #[.int .i64 3, .int .i64 n, .int .i64 m, .string s]] w fun e w' => e = .returned (.string (opText 3 n m s)) ∧ Below w.heap.size w w' := by
  have HT : Hid (opText 3 n m s = nameB 3 ++ ⟨#[32]⟩ ++ decB n ++ ⟨#[32]⟩ ++ decB m) := rfl
  have s0 := nameB_size 3
  generalize hN : nameB 3 = N at *
  have HNM : Hid (nameB 3 = N) := hN
  clear hN
  have s1 := decB_size (n := n) (by omega) (by omega)
  have s2 := decB_size (n := m) (by omega) (by omega)
  have q0 : ¬ 9223372036854775807 < N.size + 1 := by omega
  have q1 : ¬ 9223372036854775807 < N.size + 1 + (decB n).size := by omega
  have q2 : ¬ 9223372036854775807 < N.size + 1 + (decB n).size + 1 := by omega
  have q3 : ¬ 9223372036854775807 < N.size + 1 + (decB n).size + 1 + (decB m).size := by omega
  have HN : Hid (1 ≤ n ∧ n ≤ 1000) := ⟨h1, h2⟩
  have HM : Hid (-1 ≤ m ∧ m ≤ 1000) := ⟨h3, h4⟩
  clear h1 h2 s0 s1 h3 h4 s2
  go_enter Tryz.func20, Tryz.ntmps20
  go_wp2_with fail
  have b0 : (w.alloc (.cells #[.int .i64 3, .int .i64 n, .int .i64 m, .string s] 37)).cell? ⟨w.heap.size, 0, none⟩ = some (.int .i64 3) := by simp
  have b1 : (w.alloc (.cells #[.int .i64 3, .int .i64 n, .int .i64 m, .string s] 37)).cell? ⟨w.heap.size, 1, none⟩ = some (.int .i64 n) := by simp
  have b2 : (w.alloc (.cells #[.int .i64 3, .int .i64 n, .int .i64 m, .string s] 37)).cell? ⟨w.heap.size, 2, none⟩ = some (.int .i64 m) := by simp
  go_region_with (go_at_call 35; refine (l2Names_any _).mono ?_; rintro e w1 ⟨rfl, hn, hb1⟩; have n0 : w1.cell? ⟨w.heap.size + 1, 3, none⟩ = some (.string N) := (by have := hn.one 3 (by omega); rw [← HNM.out]; simpa using this); have b0' : w1.cell? ⟨w.heap.size, 0, none⟩ = some (.int .i64 3) := (hb1.cell (p := ⟨w.heap.size, 0, none⟩) (block_lt_of_cell b0)).trans b0; have b1' : w1.cell? ⟨w.heap.size, 1, none⟩ = some (.int .i64 n) := (hb1.cell (p := ⟨w.heap.size, 1, none⟩) (block_lt_of_cell b1)).trans b1; have b2' : w1.cell? ⟨w.heap.size, 2, none⟩ = some (.int .i64 m) := (hb1.cell (p := ⟨w.heap.size, 2, none⟩) (block_lt_of_cell b2)).trans b2; have HB1 : Hid (Below w.heap.size w w1) := ((((Below.refl _ w).alloc (Nat.le_refl _) _).drew).trans (hb1.mono (by simp))))
  all_goals
    go_wp2_with (go_at_call 36; refine (l1Dec_any _ (by first | (have := HN.out; omega) | (have := HM.out; omega)) (by first | (have := HN.out; omega) | (have := HM.out; omega)) _).mono ?_; rintro e w2 ⟨rfl, hb2⟩; have HBx : Hid (Below w.heap.size w w2) := (by first | exact HBx.out.trans (hb2.mono HBx.out.size) | exact HB1.out.trans (hb2.mono HB1.out.size)); have b0'' : w2.cell? ⟨w.heap.size, 0, none⟩ = some (.int .i64 3) := (by first | exact (hb2.cell (p := ⟨w.heap.size, 0, none⟩) (block_lt_of_cell b0'')).trans b0'' | exact (hb2.cell (p := ⟨w.heap.size, 0, none⟩) (block_lt_of_cell b0')).trans b0'); have b2'' : w2.cell? ⟨w.heap.size, 2, none⟩ = some (.int .i64 m) := (by first | exact (hb2.cell (p := ⟨w.heap.size, 2, none⟩) (block_lt_of_cell b2'')).trans b2'' | exact (hb2.cell (p := ⟨w.heap.size, 2, none⟩) (block_lt_of_cell b2')).trans b2'))
    go_ret
    exact ⟨by rw [HT.out]; rfl, HBx.out⟩

set_option maxHeartbeats 4000000 in
theorem l2Text_4 (n m : Int) (s : ByteArray) (w : World) (h1 : 1 ≤ n) (h2 : n ≤ 1000) :
    Calls Tryz.prog 20 #[.agg #[.int .i64 4, .int .i64 n, .int .i64 m, .string s]] w fun e w' => e = .returned (.string (opText 4 n m s)) ∧ Below w.heap.size w w' := by
  have HT : Hid (opText 4 n m s = nameB 4 ++ ⟨#[32]⟩ ++ decB n) := rfl
  have s0 := nameB_size 4
  generalize hN : nameB 4 = N at *
  have HNM : Hid (nameB 4 = N) := hN
  clear hN
  have s1 := decB_size (n := n) (by omega) (by omega)
  have q0 : ¬ 9223372036854775807 < N.size + 1 := by omega
  have q1 : ¬ 9223372036854775807 < N.size + 1 + (decB n).size := by omega
  have HN : Hid (1 ≤ n ∧ n ≤ 1000) := ⟨h1, h2⟩
  clear h1 h2 s0 s1
  go_enter Tryz.func20, Tryz.ntmps20
  go_wp2_with fail
  have b0 : (w.alloc (.cells #[.int .i64 4, .int .i64 n, .int .i64 m, .string s] 37)).cell? ⟨w.heap.size, 0, none⟩ = some (.int .i64 4) := by simp
  have b1 : (w.alloc (.cells #[.int .i64 4, .int .i64 n, .int .i64 m, .string s] 37)).cell? ⟨w.heap.size, 1, none⟩ = some (.int .i64 n) := by simp
  go_region_with (go_at_call 35; refine (l2Names_any _).mono ?_; rintro e w1 ⟨rfl, hn, hb1⟩; have n0 : w1.cell? ⟨w.heap.size + 1, 4, none⟩ = some (.string N) := (by have := hn.one 4 (by omega); rw [← HNM.out]; simpa using this); have b0' : w1.cell? ⟨w.heap.size, 0, none⟩ = some (.int .i64 4) := (hb1.cell (p := ⟨w.heap.size, 0, none⟩) (block_lt_of_cell b0)).trans b0; have b1' : w1.cell? ⟨w.heap.size, 1, none⟩ = some (.int .i64 n) := (hb1.cell (p := ⟨w.heap.size, 1, none⟩) (block_lt_of_cell b1)).trans b1; have HB1 : Hid (Below w.heap.size w w1) := ((((Below.refl _ w).alloc (Nat.le_refl _) _).drew).trans (hb1.mono (by simp))))
  all_goals
    go_wp2_with (go_at_call 36; refine (l1Dec_any n (by have := HN.out; omega) (by have := HN.out; omega) _).mono ?_; rintro e w2 ⟨rfl, hb2⟩; have b0'' : w2.cell? ⟨w.heap.size, 0, none⟩ = some (.int .i64 4) := (hb2.cell (p := ⟨w.heap.size, 0, none⟩) (block_lt_of_cell b0')).trans b0')
    go_ret
    exact ⟨by rw [HT.out]; rfl, HB1.out.trans (hb2.mono HB1.out.size)⟩

set_option maxHeartbeats 4000000 in
theorem l2Text_5 (n m : Int) (s : ByteArray) (w : World) (h1 : 1 ≤ n) (h2 : n ≤ 1000) :
    Calls Tryz.prog 20 #[.agg #[.int .i64 5, .int .i64 n, .int .i64 m, .string s]] w fun e w' => e = .returned (.string (opText 5 n m s)) ∧ Below w.heap.size w w' := by
  have HT : Hid (opText 5 n m s = nameB 5 ++ ⟨#[32]⟩ ++ decB n) := rfl
  have s0 := nameB_size 5
  generalize hN : nameB 5 = N at *
  have HNM : Hid (nameB 5 = N) := hN
  clear hN
  have s1 := decB_size (n := n) (by omega) (by omega)
  have q0 : ¬ 9223372036854775807 < N.size + 1 := by omega
  have q1 : ¬ 9223372036854775807 < N.size + 1 + (decB n).size := by omega
  have HN : Hid (1 ≤ n ∧ n ≤ 1000) := ⟨h1, h2⟩
  clear h1 h2 s0 s1
  go_enter Tryz.func20, Tryz.ntmps20
  go_wp2_with fail
  have b0 : (w.alloc (.cells #[.int .i64 5, .int .i64 n, .int .i64 m, .string s] 37)).cell? ⟨w.heap.size, 0, none⟩ = some (.int .i64 5) := by simp
  have b1 : (w.alloc (.cells #[.int .i64 5, .int .i64 n, .int .i64 m, .string s] 37)).cell? ⟨w.heap.size, 1, none⟩ = some (.int .i64 n) := by simp
  go_region_with (go_at_call 35; refine (l2Names_any _).mono ?_; rintro e w1 ⟨rfl, hn, hb1⟩; have n0 : w1.cell? ⟨w.heap.size + 1, 5, none⟩ = some (.string N) := (by have := hn.one 5 (by omega); rw [← HNM.out]; simpa using this); have b0' : w1.cell? ⟨w.heap.size, 0, none⟩ = some (.int .i64 5) := (hb1.cell (p := ⟨w.heap.size, 0, none⟩) (block_lt_of_cell b0)).trans b0; have b1' : w1.cell? ⟨w.heap.size, 1, none⟩ = some (.int .i64 n) := (hb1.cell (p := ⟨w.heap.size, 1, none⟩) (block_lt_of_cell b1)).trans b1; have HB1 : Hid (Below w.heap.size w w1) := ((((Below.refl _ w).alloc (Nat.le_refl _) _).drew).trans (hb1.mono (by simp))))
  all_goals
    go_wp2_with (go_at_call 36; refine (l1Dec_any n (by have := HN.out; omega) (by have := HN.out; omega) _).mono ?_; rintro e w2 ⟨rfl, hb2⟩; have b0'' : w2.cell? ⟨w.heap.size, 0, none⟩ = some (.int .i64 5) := (hb2.cell (p := ⟨w.heap.size, 0, none⟩) (block_lt_of_cell b0')).trans b0')
    go_ret
    exact ⟨by rw [HT.out]; rfl, HB1.out.trans (hb2.mono HB1.out.size)⟩

set_option maxHeartbeats 4000000 in
theorem l2Text_6 (n m : Int) (s : ByteArray) (w : World) (h1 : 1 ≤ n) (h2 : n ≤ 1000) :
    Calls Tryz.prog 20 #[.agg #[.int .i64 6, .int .i64 n, .int .i64 m, .string s]] w fun e w' => e = .returned (.string (opText 6 n m s)) ∧ Below w.heap.size w w' := by
  have HT : Hid (opText 6 n m s = nameB 6 ++ ⟨#[32]⟩ ++ decB n) := rfl
  have s0 := nameB_size 6
  generalize hN : nameB 6 = N at *
  have HNM : Hid (nameB 6 = N) := hN
  clear hN
  have s1 := decB_size (n := n) (by omega) (by omega)
  have q0 : ¬ 9223372036854775807 < N.size + 1 := by omega
  have q1 : ¬ 9223372036854775807 < N.size + 1 + (decB n).size := by omega
  have HN : Hid (1 ≤ n ∧ n ≤ 1000) := ⟨h1, h2⟩
  clear h1 h2 s0 s1
  go_enter Tryz.func20, Tryz.ntmps20
  go_wp2_with fail
  have b0 : (w.alloc (.cells #[.int .i64 6, .int .i64 n, .int .i64 m, .string s] 37)).cell? ⟨w.heap.size, 0, none⟩ = some (.int .i64 6) := by simp
  have b1 : (w.alloc (.cells #[.int .i64 6, .int .i64 n, .int .i64 m, .string s] 37)).cell? ⟨w.heap.size, 1, none⟩ = some (.int .i64 n) := by simp
  go_region_with (go_at_call 35; refine (l2Names_any _).mono ?_; rintro e w1 ⟨rfl, hn, hb1⟩; have n0 : w1.cell? ⟨w.heap.size + 1, 6, none⟩ = some (.string N) := (by have := hn.one 6 (by omega); rw [← HNM.out]; simpa using this); have b0' : w1.cell? ⟨w.heap.size, 0, none⟩ = some (.int .i64 6) := (hb1.cell (p := ⟨w.heap.size, 0, none⟩) (block_lt_of_cell b0)).trans b0; have b1' : w1.cell? ⟨w.heap.size, 1, none⟩ = some (.int .i64 n) := (hb1.cell (p := ⟨w.heap.size, 1, none⟩) (block_lt_of_cell b1)).trans b1; have HB1 : Hid (Below w.heap.size w w1) := ((((Below.refl _ w).alloc (Nat.le_refl _) _).drew).trans (hb1.mono (by simp))))
  all_goals
    go_wp2_with (go_at_call 36; refine (l1Dec_any n (by have := HN.out; omega) (by have := HN.out; omega) _).mono ?_; rintro e w2 ⟨rfl, hb2⟩; have b0'' : w2.cell? ⟨w.heap.size, 0, none⟩ = some (.int .i64 6) := (hb2.cell (p := ⟨w.heap.size, 0, none⟩) (block_lt_of_cell b0')).trans b0')
    go_ret
    exact ⟨by rw [HT.out]; rfl, HB1.out.trans (hb2.mono HB1.out.size)⟩

set_option maxHeartbeats 4000000 in
theorem l2Text_7 (n m : Int) (s : ByteArray) (w : World) (h1 : 1 ≤ n) (h2 : n ≤ 1000) (h3 : -1 ≤ m) (h4 : m ≤ 1000) :
    Calls Tryz.prog 20 #[.agg #[.int .i64 7, .int .i64 n, .int .i64 m, .string s]] w fun e w' => e = .returned (.string (opText 7 n m s)) ∧ Below w.heap.size w w' := by
  have HT : Hid (opText 7 n m s = nameB 7 ++ ⟨#[32]⟩ ++ decB n ++ ⟨#[32]⟩ ++ decB m) := rfl
  have s0 := nameB_size 7
  generalize hN : nameB 7 = N at *
  have HNM : Hid (nameB 7 = N) := hN
  clear hN
  have s1 := decB_size (n := n) (by omega) (by omega)
  have s2 := decB_size (n := m) (by omega) (by omega)
  have q0 : ¬ 9223372036854775807 < N.size + 1 := by omega
  have q1 : ¬ 9223372036854775807 < N.size + 1 + (decB n).size := by omega
  have q2 : ¬ 9223372036854775807 < N.size + 1 + (decB n).size + 1 := by omega
  have q3 : ¬ 9223372036854775807 < N.size + 1 + (decB n).size + 1 + (decB m).size := by omega
  have HN : Hid (1 ≤ n ∧ n ≤ 1000) := ⟨h1, h2⟩
  have HM : Hid (-1 ≤ m ∧ m ≤ 1000) := ⟨h3, h4⟩
  clear h1 h2 s0 s1 h3 h4 s2
  go_enter Tryz.func20, Tryz.ntmps20
  go_wp2_with fail
  have b0 : (w.alloc (.cells #[.int .i64 7, .int .i64 n, .int .i64 m, .string s] 37)).cell? ⟨w.heap.size, 0, none⟩ = some (.int .i64 7) := by simp
  have b1 : (w.alloc (.cells #[.int .i64 7, .int .i64 n, .int .i64 m, .string s] 37)).cell? ⟨w.heap.size, 1, none⟩ = some (.int .i64 n) := by simp
  have b2 : (w.alloc (.cells #[.int .i64 7, .int .i64 n, .int .i64 m, .string s] 37)).cell? ⟨w.heap.size, 2, none⟩ = some (.int .i64 m) := by simp
  go_region_with (go_at_call 35; refine (l2Names_any _).mono ?_; rintro e w1 ⟨rfl, hn, hb1⟩; have n0 : w1.cell? ⟨w.heap.size + 1, 7, none⟩ = some (.string N) := (by have := hn.one 7 (by omega); rw [← HNM.out]; simpa using this); have b0' : w1.cell? ⟨w.heap.size, 0, none⟩ = some (.int .i64 7) := (hb1.cell (p := ⟨w.heap.size, 0, none⟩) (block_lt_of_cell b0)).trans b0; have b1' : w1.cell? ⟨w.heap.size, 1, none⟩ = some (.int .i64 n) := (hb1.cell (p := ⟨w.heap.size, 1, none⟩) (block_lt_of_cell b1)).trans b1; have b2' : w1.cell? ⟨w.heap.size, 2, none⟩ = some (.int .i64 m) := (hb1.cell (p := ⟨w.heap.size, 2, none⟩) (block_lt_of_cell b2)).trans b2; have HB1 : Hid (Below w.heap.size w w1) := ((((Below.refl _ w).alloc (Nat.le_refl _) _).drew).trans (hb1.mono (by simp))))
  all_goals
    go_wp2_with (go_at_call 36; refine (l1Dec_any _ (by first | (have := HN.out; omega) | (have := HM.out; omega)) (by first | (have := HN.out; omega) | (have := HM.out; omega)) _).mono ?_; rintro e w2 ⟨rfl, hb2⟩; have HBx : Hid (Below w.heap.size w w2) := (by first | exact HBx.out.trans (hb2.mono HBx.out.size) | exact HB1.out.trans (hb2.mono HB1.out.size)); have b0'' : w2.cell? ⟨w.heap.size, 0, none⟩ = some (.int .i64 7) := (by first | exact (hb2.cell (p := ⟨w.heap.size, 0, none⟩) (block_lt_of_cell b0'')).trans b0'' | exact (hb2.cell (p := ⟨w.heap.size, 0, none⟩) (block_lt_of_cell b0')).trans b0'); have b2'' : w2.cell? ⟨w.heap.size, 2, none⟩ = some (.int .i64 m) := (by first | exact (hb2.cell (p := ⟨w.heap.size, 2, none⟩) (block_lt_of_cell b2'')).trans b2'' | exact (hb2.cell (p := ⟨w.heap.size, 2, none⟩) (block_lt_of_cell b2')).trans b2'))
    go_ret
    exact ⟨by rw [HT.out]; rfl, HBx.out⟩

set_option maxHeartbeats 4000000 in
theorem l2Text_8 (n m : Int) (s : ByteArray) (w : World) (h1 : 1 ≤ n) (h2 : n ≤ 1000) (h3 : -1 ≤ m) (h4 : m ≤ 1000) (hs : s.size ≤ 20) :
    Calls Tryz.prog 20 #[.agg #[.int .i64 8, .int .i64 n, .int .i64 m, .string s]] w fun e w' => e = .returned (.string (opText 8 n m s)) ∧ Below w.heap.size w w' := by
  have HT : Hid (opText 8 n m s = nameB 8 ++ ⟨#[32]⟩ ++ decB n ++ ⟨#[32]⟩ ++ decB m ++ ⟨#[32]⟩ ++ s) := rfl
  have s0 := nameB_size 8
  generalize hN : nameB 8 = N at *
  have HNM : Hid (nameB 8 = N) := hN
  clear hN
  have s1 := decB_size (n := n) (by omega) (by omega)
  have s2 := decB_size (n := m) (by omega) (by omega)
  have q0 : ¬ 9223372036854775807 < N.size + 1 := by omega
  have q1 : ¬ 9223372036854775807 < N.size + 1 + (decB n).size := by omega
  have q2 : ¬ 9223372036854775807 < N.size + 1 + (decB n).size + 1 := by omega
  have q3 : ¬ 9223372036854775807 < N.size + 1 + (decB n).size + 1 + (decB m).size := by omega
  have q4 : ¬ 9223372036854775807 < N.size + 1 + (decB n).size + 1 + (decB m).size + 1 := by omega
  have q5 : ¬ 9223372036854775807 < N.size + 1 + (decB n).size + 1 + (decB m).size + 1 + s.size := by omega
  have HN : Hid (1 ≤ n ∧ n ≤ 1000) := ⟨h1, h2⟩
  have HM : Hid (-1 ≤ m ∧ m ≤ 1000) := ⟨h3, h4⟩
  clear h1 h2 s0 s1 h3 h4 s2 hs
  go_enter Tryz.func20, Tryz.ntmps20
  go_wp2_with fail
  have b0 : (w.alloc (.cells #[.int .i64 8, .int .i64 n, .int .i64 m, .string s] 37)).cell? ⟨w.heap.size, 0, none⟩ = some (.int .i64 8) := by simp
  have b1 : (w.alloc (.cells #[.int .i64 8, .int .i64 n, .int .i64 m, .string s] 37)).cell? ⟨w.heap.size, 1, none⟩ = some (.int .i64 n) := by simp
  have b2 : (w.alloc (.cells #[.int .i64 8, .int .i64 n, .int .i64 m, .string s] 37)).cell? ⟨w.heap.size, 2, none⟩ = some (.int .i64 m) := by simp
  have b3 : (w.alloc (.cells #[.int .i64 8, .int .i64 n, .int .i64 m, .string s] 37)).cell? ⟨w.heap.size, 3, none⟩ = some (.string s) := by simp
  go_region_with (go_at_call 35; refine (l2Names_any _).mono ?_; rintro e w1 ⟨rfl, hn, hb1⟩; have n0 : w1.cell? ⟨w.heap.size + 1, 8, none⟩ = some (.string N) := (by have := hn.one 8 (by omega); rw [← HNM.out]; simpa using this); have b0' : w1.cell? ⟨w.heap.size, 0, none⟩ = some (.int .i64 8) := (hb1.cell (p := ⟨w.heap.size, 0, none⟩) (block_lt_of_cell b0)).trans b0; have b1' : w1.cell? ⟨w.heap.size, 1, none⟩ = some (.int .i64 n) := (hb1.cell (p := ⟨w.heap.size, 1, none⟩) (block_lt_of_cell b1)).trans b1; have b2' : w1.cell? ⟨w.heap.size, 2, none⟩ = some (.int .i64 m) := (hb1.cell (p := ⟨w.heap.size, 2, none⟩) (block_lt_of_cell b2)).trans b2; have b3' : w1.cell? ⟨w.heap.size, 3, none⟩ = some (.string s) := (hb1.cell (p := ⟨w.heap.size, 3, none⟩) (block_lt_of_cell b3)).trans b3; have HB1 : Hid (Below w.heap.size w w1) := ((((Below.refl _ w).alloc (Nat.le_refl _) _).drew).trans (hb1.mono (by simp))))
  all_goals
    go_wp2_with (go_at_call 36; refine (l1Dec_any n (by have := HN.out; omega) (by have := HN.out; omega) _).mono ?_; rintro e w2 ⟨rfl, hb2⟩; have b0'' : w2.cell? ⟨w.heap.size, 0, none⟩ = some (.int .i64 8) := (hb2.cell (p := ⟨w.heap.size, 0, none⟩) (block_lt_of_cell b0')).trans b0'; have b2'' : w2.cell? ⟨w.heap.size, 2, none⟩ = some (.int .i64 m) := (hb2.cell (p := ⟨w.heap.size, 2, none⟩) (block_lt_of_cell b2')).trans b2'; have b3'' : w2.cell? ⟨w.heap.size, 3, none⟩ = some (.string s) := (hb2.cell (p := ⟨w.heap.size, 3, none⟩) (block_lt_of_cell b3')).trans b3')
    go_region_held3 (fun w' => w'.cell? ⟨w.heap.size, 2, none⟩ = some (.int .i64 m) ∧ w'.cell? ⟨w.heap.size, 3, none⟩ = some (.string s)) (first | exact ⟨b2'', b3''⟩ | exact ⟨(hb3.cell (p := ⟨w.heap.size, 2, none⟩) (block_lt_of_cell b2'')).trans b2'', (hb3.cell (p := ⟨w.heap.size, 3, none⟩) (block_lt_of_cell b3'')).trans b3''⟩) (first | (go_at_call 36; refine (l1Dec_any m (by have := HM.out; omega) (by have := HM.out; omega) _).mono ?_; rintro e w3 ⟨rfl, hb3⟩))
    go_wp2
    go_ret
    exact ⟨by rw [HT.out]; rfl, ((HB1.out.trans (hb2.mono HB1.out.size)).drew).trans (hb3.mono (Nat.le_trans HB1.out.size hb2.size))⟩

set_option maxHeartbeats 4000000 in
theorem l2Text_9 (n m : Int) (s : ByteArray) (w : World) (h1 : 1 ≤ n) (h2 : n ≤ 1000) (h3 : -1 ≤ m) (h4 : m ≤ 1000) :
    Calls Tryz.prog 20 #[.agg #[.int .i64 9, .int .i64 n, .int .i64 m, .string s]] w fun e w' => e = .returned (.string (opText 9 n m s)) ∧ Below w.heap.size w w' := by
  have HT : Hid (opText 9 n m s = nameB 9 ++ ⟨#[32]⟩ ++ decB n ++ ⟨#[32]⟩ ++ decB m) := rfl
  have s0 := nameB_size 9
  generalize hN : nameB 9 = N at *
  have HNM : Hid (nameB 9 = N) := hN
  clear hN
  have s1 := decB_size (n := n) (by omega) (by omega)
  have s2 := decB_size (n := m) (by omega) (by omega)
  have q0 : ¬ 9223372036854775807 < N.size + 1 := by omega
  have q1 : ¬ 9223372036854775807 < N.size + 1 + (decB n).size := by omega
  have q2 : ¬ 9223372036854775807 < N.size + 1 + (decB n).size + 1 := by omega
  have q3 : ¬ 9223372036854775807 < N.size + 1 + (decB n).size + 1 + (decB m).size := by omega
  have HN : Hid (1 ≤ n ∧ n ≤ 1000) := ⟨h1, h2⟩
  have HM : Hid (-1 ≤ m ∧ m ≤ 1000) := ⟨h3, h4⟩
  clear h1 h2 s0 s1 h3 h4 s2
  go_enter Tryz.func20, Tryz.ntmps20
  go_wp2_with fail
  have b0 : (w.alloc (.cells #[.int .i64 9, .int .i64 n, .int .i64 m, .string s] 37)).cell? ⟨w.heap.size, 0, none⟩ = some (.int .i64 9) := by simp
  have b1 : (w.alloc (.cells #[.int .i64 9, .int .i64 n, .int .i64 m, .string s] 37)).cell? ⟨w.heap.size, 1, none⟩ = some (.int .i64 n) := by simp
  have b2 : (w.alloc (.cells #[.int .i64 9, .int .i64 n, .int .i64 m, .string s] 37)).cell? ⟨w.heap.size, 2, none⟩ = some (.int .i64 m) := by simp
  go_region_with (go_at_call 35; refine (l2Names_any _).mono ?_; rintro e w1 ⟨rfl, hn, hb1⟩; have n0 : w1.cell? ⟨w.heap.size + 1, 9, none⟩ = some (.string N) := (by have := hn.one 9 (by omega); rw [← HNM.out]; simpa using this); have b0' : w1.cell? ⟨w.heap.size, 0, none⟩ = some (.int .i64 9) := (hb1.cell (p := ⟨w.heap.size, 0, none⟩) (block_lt_of_cell b0)).trans b0; have b1' : w1.cell? ⟨w.heap.size, 1, none⟩ = some (.int .i64 n) := (hb1.cell (p := ⟨w.heap.size, 1, none⟩) (block_lt_of_cell b1)).trans b1; have b2' : w1.cell? ⟨w.heap.size, 2, none⟩ = some (.int .i64 m) := (hb1.cell (p := ⟨w.heap.size, 2, none⟩) (block_lt_of_cell b2)).trans b2; have HB1 : Hid (Below w.heap.size w w1) := ((((Below.refl _ w).alloc (Nat.le_refl _) _).drew).trans (hb1.mono (by simp))))
  all_goals
    go_wp2_with (go_at_call 36; refine (l1Dec_any _ (by first | (have := HN.out; omega) | (have := HM.out; omega)) (by first | (have := HN.out; omega) | (have := HM.out; omega)) _).mono ?_; rintro e w2 ⟨rfl, hb2⟩; have HBx : Hid (Below w.heap.size w w2) := (by first | exact HBx.out.trans (hb2.mono HBx.out.size) | exact HB1.out.trans (hb2.mono HB1.out.size)); have b0'' : w2.cell? ⟨w.heap.size, 0, none⟩ = some (.int .i64 9) := (by first | exact (hb2.cell (p := ⟨w.heap.size, 0, none⟩) (block_lt_of_cell b0'')).trans b0'' | exact (hb2.cell (p := ⟨w.heap.size, 0, none⟩) (block_lt_of_cell b0')).trans b0'); have b2'' : w2.cell? ⟨w.heap.size, 2, none⟩ = some (.int .i64 m) := (by first | exact (hb2.cell (p := ⟨w.heap.size, 2, none⟩) (block_lt_of_cell b2'')).trans b2'' | exact (hb2.cell (p := ⟨w.heap.size, 2, none⟩) (block_lt_of_cell b2')).trans b2'))
    go_ret
    exact ⟨by rw [HT.out]; rfl, HBx.out⟩

set_option maxHeartbeats 4000000 in
theorem l2Text_10 (n m : Int) (s : ByteArray) (w : World) (h1 : 1 ≤ n) (h2 : n ≤ 1000) (hs : s.size ≤ 20) :
    Calls Tryz.prog 20 #[.agg #[.int .i64 10, .int .i64 n, .int .i64 m, .string s]] w fun e w' => e = .returned (.string (opText 10 n m s)) ∧ Below w.heap.size w w' := by
  have HT : Hid (opText 10 n m s = nameB 10 ++ ⟨#[32]⟩ ++ decB n ++ ⟨#[32]⟩ ++ s) := rfl
  have s0 := nameB_size 10
  generalize hN : nameB 10 = N at *
  have HNM : Hid (nameB 10 = N) := hN
  clear hN
  have s1 := decB_size (n := n) (by omega) (by omega)
  have q0 : ¬ 9223372036854775807 < N.size + 1 := by omega
  have q1 : ¬ 9223372036854775807 < N.size + 1 + (decB n).size := by omega
  have q2 : ¬ 9223372036854775807 < N.size + 1 + (decB n).size + 1 := by omega
  have q3 : ¬ 9223372036854775807 < N.size + 1 + (decB n).size + 1 + s.size := by omega
  have HN : Hid (1 ≤ n ∧ n ≤ 1000) := ⟨h1, h2⟩
  clear h1 h2 s0 s1 hs
  go_enter Tryz.func20, Tryz.ntmps20
  go_wp2_with fail
  have b0 : (w.alloc (.cells #[.int .i64 10, .int .i64 n, .int .i64 m, .string s] 37)).cell? ⟨w.heap.size, 0, none⟩ = some (.int .i64 10) := by simp
  have b1 : (w.alloc (.cells #[.int .i64 10, .int .i64 n, .int .i64 m, .string s] 37)).cell? ⟨w.heap.size, 1, none⟩ = some (.int .i64 n) := by simp
  have b3 : (w.alloc (.cells #[.int .i64 10, .int .i64 n, .int .i64 m, .string s] 37)).cell? ⟨w.heap.size, 3, none⟩ = some (.string s) := by simp
  go_region_with (go_at_call 35; refine (l2Names_any _).mono ?_; rintro e w1 ⟨rfl, hn, hb1⟩; have n0 : w1.cell? ⟨w.heap.size + 1, 10, none⟩ = some (.string N) := (by have := hn.one 10 (by omega); rw [← HNM.out]; simpa using this); have b0' : w1.cell? ⟨w.heap.size, 0, none⟩ = some (.int .i64 10) := (hb1.cell (p := ⟨w.heap.size, 0, none⟩) (block_lt_of_cell b0)).trans b0; have b1' : w1.cell? ⟨w.heap.size, 1, none⟩ = some (.int .i64 n) := (hb1.cell (p := ⟨w.heap.size, 1, none⟩) (block_lt_of_cell b1)).trans b1; have b3' : w1.cell? ⟨w.heap.size, 3, none⟩ = some (.string s) := (hb1.cell (p := ⟨w.heap.size, 3, none⟩) (block_lt_of_cell b3)).trans b3; have HB1 : Hid (Below w.heap.size w w1) := ((((Below.refl _ w).alloc (Nat.le_refl _) _).drew).trans (hb1.mono (by simp))))
  all_goals
    go_wp2_with (go_at_call 36; refine (l1Dec_any n (by have := HN.out; omega) (by have := HN.out; omega) _).mono ?_; rintro e w2 ⟨rfl, hb2⟩; have b0'' : w2.cell? ⟨w.heap.size, 0, none⟩ = some (.int .i64 10) := (hb2.cell (p := ⟨w.heap.size, 0, none⟩) (block_lt_of_cell b0')).trans b0'; have b3'' : w2.cell? ⟨w.heap.size, 3, none⟩ = some (.string s) := (hb2.cell (p := ⟨w.heap.size, 3, none⟩) (block_lt_of_cell b3')).trans b3')
    go_ret
    exact ⟨by rw [HT.out]; rfl, HB1.out.trans (hb2.mono HB1.out.size)⟩

set_option maxHeartbeats 4000000 in
theorem l2Text_11 (n m : Int) (s : ByteArray) (w : World) (h1 : 1 ≤ n) (h2 : n ≤ 1000) :
    Calls Tryz.prog 20 #[.agg #[.int .i64 11, .int .i64 n, .int .i64 m, .string s]] w fun e w' => e = .returned (.string (opText 11 n m s)) ∧ Below w.heap.size w w' := by
  have HT : Hid (opText 11 n m s = nameB 11 ++ ⟨#[32]⟩ ++ decB n) := rfl
  have s0 := nameB_size 11
  generalize hN : nameB 11 = N at *
  have HNM : Hid (nameB 11 = N) := hN
  clear hN
  have s1 := decB_size (n := n) (by omega) (by omega)
  have q0 : ¬ 9223372036854775807 < N.size + 1 := by omega
  have q1 : ¬ 9223372036854775807 < N.size + 1 + (decB n).size := by omega
  have HN : Hid (1 ≤ n ∧ n ≤ 1000) := ⟨h1, h2⟩
  clear h1 h2 s0 s1
  go_enter Tryz.func20, Tryz.ntmps20
  go_wp2_with fail
  have b0 : (w.alloc (.cells #[.int .i64 11, .int .i64 n, .int .i64 m, .string s] 37)).cell? ⟨w.heap.size, 0, none⟩ = some (.int .i64 11) := by simp
  have b1 : (w.alloc (.cells #[.int .i64 11, .int .i64 n, .int .i64 m, .string s] 37)).cell? ⟨w.heap.size, 1, none⟩ = some (.int .i64 n) := by simp
  go_region_with (go_at_call 35; refine (l2Names_any _).mono ?_; rintro e w1 ⟨rfl, hn, hb1⟩; have n0 : w1.cell? ⟨w.heap.size + 1, 11, none⟩ = some (.string N) := (by have := hn.one 11 (by omega); rw [← HNM.out]; simpa using this); have b0' : w1.cell? ⟨w.heap.size, 0, none⟩ = some (.int .i64 11) := (hb1.cell (p := ⟨w.heap.size, 0, none⟩) (block_lt_of_cell b0)).trans b0; have b1' : w1.cell? ⟨w.heap.size, 1, none⟩ = some (.int .i64 n) := (hb1.cell (p := ⟨w.heap.size, 1, none⟩) (block_lt_of_cell b1)).trans b1; have HB1 : Hid (Below w.heap.size w w1) := ((((Below.refl _ w).alloc (Nat.le_refl _) _).drew).trans (hb1.mono (by simp))))
  all_goals
    go_wp2_with (go_at_call 36; refine (l1Dec_any n (by have := HN.out; omega) (by have := HN.out; omega) _).mono ?_; rintro e w2 ⟨rfl, hb2⟩; have b0'' : w2.cell? ⟨w.heap.size, 0, none⟩ = some (.int .i64 11) := (hb2.cell (p := ⟨w.heap.size, 0, none⟩) (block_lt_of_cell b0')).trans b0')
    go_ret
    exact ⟨by rw [HT.out]; rfl, HB1.out.trans (hb2.mono HB1.out.size)⟩

set_option maxHeartbeats 4000000 in
theorem l2Text_12 (n m : Int) (s : ByteArray) (w : World) (h1 : 1 ≤ n) (h2 : n ≤ 1000) (h3 : -1 ≤ m) (h4 : m ≤ 1000) :
    Calls Tryz.prog 20 #[.agg #[.int .i64 12, .int .i64 n, .int .i64 m, .string s]] w fun e w' => e = .returned (.string (opText 12 n m s)) ∧ Below w.heap.size w w' := by
  have HT : Hid (opText 12 n m s = nameB 12 ++ ⟨#[32]⟩ ++ decB n ++ ⟨#[32]⟩ ++ decB m) := rfl
  have s0 := nameB_size 12
  generalize hN : nameB 12 = N at *
  have HNM : Hid (nameB 12 = N) := hN
  clear hN
  have s1 := decB_size (n := n) (by omega) (by omega)
  have s2 := decB_size (n := m) (by omega) (by omega)
  have q0 : ¬ 9223372036854775807 < N.size + 1 := by omega
  have q1 : ¬ 9223372036854775807 < N.size + 1 + (decB n).size := by omega
  have q2 : ¬ 9223372036854775807 < N.size + 1 + (decB n).size + 1 := by omega
  have q3 : ¬ 9223372036854775807 < N.size + 1 + (decB n).size + 1 + (decB m).size := by omega
  have HN : Hid (1 ≤ n ∧ n ≤ 1000) := ⟨h1, h2⟩
  have HM : Hid (-1 ≤ m ∧ m ≤ 1000) := ⟨h3, h4⟩
  clear h1 h2 s0 s1 h3 h4 s2
  go_enter Tryz.func20, Tryz.ntmps20
  go_wp2_with fail
  have b0 : (w.alloc (.cells #[.int .i64 12, .int .i64 n, .int .i64 m, .string s] 37)).cell? ⟨w.heap.size, 0, none⟩ = some (.int .i64 12) := by simp
  have b1 : (w.alloc (.cells #[.int .i64 12, .int .i64 n, .int .i64 m, .string s] 37)).cell? ⟨w.heap.size, 1, none⟩ = some (.int .i64 n) := by simp
  have b2 : (w.alloc (.cells #[.int .i64 12, .int .i64 n, .int .i64 m, .string s] 37)).cell? ⟨w.heap.size, 2, none⟩ = some (.int .i64 m) := by simp
  go_region_with (go_at_call 35; refine (l2Names_any _).mono ?_; rintro e w1 ⟨rfl, hn, hb1⟩; have n0 : w1.cell? ⟨w.heap.size + 1, 12, none⟩ = some (.string N) := (by have := hn.one 12 (by omega); rw [← HNM.out]; simpa using this); have b0' : w1.cell? ⟨w.heap.size, 0, none⟩ = some (.int .i64 12) := (hb1.cell (p := ⟨w.heap.size, 0, none⟩) (block_lt_of_cell b0)).trans b0; have b1' : w1.cell? ⟨w.heap.size, 1, none⟩ = some (.int .i64 n) := (hb1.cell (p := ⟨w.heap.size, 1, none⟩) (block_lt_of_cell b1)).trans b1; have b2' : w1.cell? ⟨w.heap.size, 2, none⟩ = some (.int .i64 m) := (hb1.cell (p := ⟨w.heap.size, 2, none⟩) (block_lt_of_cell b2)).trans b2; have HB1 : Hid (Below w.heap.size w w1) := ((((Below.refl _ w).alloc (Nat.le_refl _) _).drew).trans (hb1.mono (by simp))))
  all_goals
    go_wp2_with (go_at_call 36; refine (l1Dec_any _ (by first | (have := HN.out; omega) | (have := HM.out; omega)) (by first | (have := HN.out; omega) | (have := HM.out; omega)) _).mono ?_; rintro e w2 ⟨rfl, hb2⟩; have HBx : Hid (Below w.heap.size w w2) := (by first | exact HBx.out.trans (hb2.mono HBx.out.size) | exact HB1.out.trans (hb2.mono HB1.out.size)); have b0'' : w2.cell? ⟨w.heap.size, 0, none⟩ = some (.int .i64 12) := (by first | exact (hb2.cell (p := ⟨w.heap.size, 0, none⟩) (block_lt_of_cell b0'')).trans b0'' | exact (hb2.cell (p := ⟨w.heap.size, 0, none⟩) (block_lt_of_cell b0')).trans b0'); have b2'' : w2.cell? ⟨w.heap.size, 2, none⟩ = some (.int .i64 m) := (by first | exact (hb2.cell (p := ⟨w.heap.size, 2, none⟩) (block_lt_of_cell b2'')).trans b2'' | exact (hb2.cell (p := ⟨w.heap.size, 2, none⟩) (block_lt_of_cell b2')).trans b2'))
    go_ret
    exact ⟨by rw [HT.out]; rfl, HBx.out⟩

set_option maxHeartbeats 4000000 in
theorem l2Text_13 (n m : Int) (s : ByteArray) (w : World) (h1 : 1 ≤ n) (h2 : n ≤ 1000) (hs : s.size ≤ 20) :
    Calls Tryz.prog 20 #[.agg #[.int .i64 13, .int .i64 n, .int .i64 m, .string s]] w fun e w' => e = .returned (.string (opText 13 n m s)) ∧ Below w.heap.size w w' := by
  have HT : Hid (opText 13 n m s = nameB 13 ++ ⟨#[32]⟩ ++ decB n ++ ⟨#[32]⟩ ++ s) := rfl
  have s0 := nameB_size 13
  generalize hN : nameB 13 = N at *
  have HNM : Hid (nameB 13 = N) := hN
  clear hN
  have s1 := decB_size (n := n) (by omega) (by omega)
  have q0 : ¬ 9223372036854775807 < N.size + 1 := by omega
  have q1 : ¬ 9223372036854775807 < N.size + 1 + (decB n).size := by omega
  have q2 : ¬ 9223372036854775807 < N.size + 1 + (decB n).size + 1 := by omega
  have q3 : ¬ 9223372036854775807 < N.size + 1 + (decB n).size + 1 + s.size := by omega
  have HN : Hid (1 ≤ n ∧ n ≤ 1000) := ⟨h1, h2⟩
  clear h1 h2 s0 s1 hs
  go_enter Tryz.func20, Tryz.ntmps20
  go_wp2_with fail
  have b0 : (w.alloc (.cells #[.int .i64 13, .int .i64 n, .int .i64 m, .string s] 37)).cell? ⟨w.heap.size, 0, none⟩ = some (.int .i64 13) := by simp
  have b1 : (w.alloc (.cells #[.int .i64 13, .int .i64 n, .int .i64 m, .string s] 37)).cell? ⟨w.heap.size, 1, none⟩ = some (.int .i64 n) := by simp
  have b3 : (w.alloc (.cells #[.int .i64 13, .int .i64 n, .int .i64 m, .string s] 37)).cell? ⟨w.heap.size, 3, none⟩ = some (.string s) := by simp
  go_region_with (go_at_call 35; refine (l2Names_any _).mono ?_; rintro e w1 ⟨rfl, hn, hb1⟩; have n0 : w1.cell? ⟨w.heap.size + 1, 13, none⟩ = some (.string N) := (by have := hn.one 13 (by omega); rw [← HNM.out]; simpa using this); have b0' : w1.cell? ⟨w.heap.size, 0, none⟩ = some (.int .i64 13) := (hb1.cell (p := ⟨w.heap.size, 0, none⟩) (block_lt_of_cell b0)).trans b0; have b1' : w1.cell? ⟨w.heap.size, 1, none⟩ = some (.int .i64 n) := (hb1.cell (p := ⟨w.heap.size, 1, none⟩) (block_lt_of_cell b1)).trans b1; have b3' : w1.cell? ⟨w.heap.size, 3, none⟩ = some (.string s) := (hb1.cell (p := ⟨w.heap.size, 3, none⟩) (block_lt_of_cell b3)).trans b3; have HB1 : Hid (Below w.heap.size w w1) := ((((Below.refl _ w).alloc (Nat.le_refl _) _).drew).trans (hb1.mono (by simp))))
  all_goals
    go_wp2_with (go_at_call 36; refine (l1Dec_any n (by have := HN.out; omega) (by have := HN.out; omega) _).mono ?_; rintro e w2 ⟨rfl, hb2⟩; have b0'' : w2.cell? ⟨w.heap.size, 0, none⟩ = some (.int .i64 13) := (hb2.cell (p := ⟨w.heap.size, 0, none⟩) (block_lt_of_cell b0')).trans b0'; have b3'' : w2.cell? ⟨w.heap.size, 3, none⟩ = some (.string s) := (hb2.cell (p := ⟨w.heap.size, 3, none⟩) (block_lt_of_cell b3')).trans b3')
    go_ret
    exact ⟨by rw [HT.out]; rfl, HB1.out.trans (hb2.mono HB1.out.size)⟩

set_option maxHeartbeats 4000000 in
theorem l2Text_14 (n m : Int) (s : ByteArray) (w : World) (h1 : 1 ≤ n) (h2 : n ≤ 1000) :
    Calls Tryz.prog 20 #[.agg #[.int .i64 14, .int .i64 n, .int .i64 m, .string s]] w fun e w' => e = .returned (.string (opText 14 n m s)) ∧ Below w.heap.size w w' := by
  have HT : Hid (opText 14 n m s = nameB 14 ++ ⟨#[32]⟩ ++ decB n) := rfl
  have s0 := nameB_size 14
  generalize hN : nameB 14 = N at *
  have HNM : Hid (nameB 14 = N) := hN
  clear hN
  have s1 := decB_size (n := n) (by omega) (by omega)
  have q0 : ¬ 9223372036854775807 < N.size + 1 := by omega
  have q1 : ¬ 9223372036854775807 < N.size + 1 + (decB n).size := by omega
  have HN : Hid (1 ≤ n ∧ n ≤ 1000) := ⟨h1, h2⟩
  clear h1 h2 s0 s1
  go_enter Tryz.func20, Tryz.ntmps20
  go_wp2_with fail
  have b0 : (w.alloc (.cells #[.int .i64 14, .int .i64 n, .int .i64 m, .string s] 37)).cell? ⟨w.heap.size, 0, none⟩ = some (.int .i64 14) := by simp
  have b1 : (w.alloc (.cells #[.int .i64 14, .int .i64 n, .int .i64 m, .string s] 37)).cell? ⟨w.heap.size, 1, none⟩ = some (.int .i64 n) := by simp
  go_region_with (go_at_call 35; refine (l2Names_any _).mono ?_; rintro e w1 ⟨rfl, hn, hb1⟩; have n0 : w1.cell? ⟨w.heap.size + 1, 14, none⟩ = some (.string N) := (by have := hn.one 14 (by omega); rw [← HNM.out]; simpa using this); have b0' : w1.cell? ⟨w.heap.size, 0, none⟩ = some (.int .i64 14) := (hb1.cell (p := ⟨w.heap.size, 0, none⟩) (block_lt_of_cell b0)).trans b0; have b1' : w1.cell? ⟨w.heap.size, 1, none⟩ = some (.int .i64 n) := (hb1.cell (p := ⟨w.heap.size, 1, none⟩) (block_lt_of_cell b1)).trans b1; have HB1 : Hid (Below w.heap.size w w1) := ((((Below.refl _ w).alloc (Nat.le_refl _) _).drew).trans (hb1.mono (by simp))))
  all_goals
    go_wp2_with (go_at_call 36; refine (l1Dec_any n (by have := HN.out; omega) (by have := HN.out; omega) _).mono ?_; rintro e w2 ⟨rfl, hb2⟩; have b0'' : w2.cell? ⟨w.heap.size, 0, none⟩ = some (.int .i64 14) := (hb2.cell (p := ⟨w.heap.size, 0, none⟩) (block_lt_of_cell b0')).trans b0')
    go_ret
    exact ⟨by rw [HT.out]; rfl, HB1.out.trans (hb2.mono HB1.out.size)⟩

set_option maxHeartbeats 4000000 in
theorem l2Text_15 (n m : Int) (s : ByteArray) (w : World) (h1 : 1 ≤ n) (h2 : n ≤ 1000) :
    Calls Tryz.prog 20 #[.agg #[.int .i64 15, .int .i64 n, .int .i64 m, .string s]] w fun e w' => e = .returned (.string (opText 15 n m s)) ∧ Below w.heap.size w w' := by
  have HT : Hid (opText 15 n m s = nameB 15 ++ ⟨#[32]⟩ ++ decB n) := rfl
  have s0 := nameB_size 15
  generalize hN : nameB 15 = N at *
  have HNM : Hid (nameB 15 = N) := hN
  clear hN
  have s1 := decB_size (n := n) (by omega) (by omega)
  have q0 : ¬ 9223372036854775807 < N.size + 1 := by omega
  have q1 : ¬ 9223372036854775807 < N.size + 1 + (decB n).size := by omega
  have HN : Hid (1 ≤ n ∧ n ≤ 1000) := ⟨h1, h2⟩
  clear h1 h2 s0 s1
  go_enter Tryz.func20, Tryz.ntmps20
  go_wp2_with fail
  have b0 : (w.alloc (.cells #[.int .i64 15, .int .i64 n, .int .i64 m, .string s] 37)).cell? ⟨w.heap.size, 0, none⟩ = some (.int .i64 15) := by simp
  have b1 : (w.alloc (.cells #[.int .i64 15, .int .i64 n, .int .i64 m, .string s] 37)).cell? ⟨w.heap.size, 1, none⟩ = some (.int .i64 n) := by simp
  go_region_with (go_at_call 35; refine (l2Names_any _).mono ?_; rintro e w1 ⟨rfl, hn, hb1⟩; have n0 : w1.cell? ⟨w.heap.size + 1, 15, none⟩ = some (.string N) := (by have := hn.one 15 (by omega); rw [← HNM.out]; simpa using this); have b0' : w1.cell? ⟨w.heap.size, 0, none⟩ = some (.int .i64 15) := (hb1.cell (p := ⟨w.heap.size, 0, none⟩) (block_lt_of_cell b0)).trans b0; have b1' : w1.cell? ⟨w.heap.size, 1, none⟩ = some (.int .i64 n) := (hb1.cell (p := ⟨w.heap.size, 1, none⟩) (block_lt_of_cell b1)).trans b1; have HB1 : Hid (Below w.heap.size w w1) := ((((Below.refl _ w).alloc (Nat.le_refl _) _).drew).trans (hb1.mono (by simp))))
  all_goals
    go_wp2_with (go_at_call 36; refine (l1Dec_any n (by have := HN.out; omega) (by have := HN.out; omega) _).mono ?_; rintro e w2 ⟨rfl, hb2⟩; have b0'' : w2.cell? ⟨w.heap.size, 0, none⟩ = some (.int .i64 15) := (hb2.cell (p := ⟨w.heap.size, 0, none⟩) (block_lt_of_cell b0')).trans b0')
    go_ret
    exact ⟨by rw [HT.out]; rfl, HB1.out.trans (hb2.mono HB1.out.size)⟩

set_option maxHeartbeats 4000000 in
theorem l2Text_16 (n m : Int) (s : ByteArray) (w : World) (h1 : 1 ≤ n) (h2 : n ≤ 1000) :
    Calls Tryz.prog 20 #[.agg #[.int .i64 16, .int .i64 n, .int .i64 m, .string s]] w fun e w' => e = .returned (.string (opText 16 n m s)) ∧ Below w.heap.size w w' := by
  have HT : Hid (opText 16 n m s = nameB 16 ++ ⟨#[32]⟩ ++ decB n) := rfl
  have s0 := nameB_size 16
  generalize hN : nameB 16 = N at *
  have HNM : Hid (nameB 16 = N) := hN
  clear hN
  have s1 := decB_size (n := n) (by omega) (by omega)
  have q0 : ¬ 9223372036854775807 < N.size + 1 := by omega
  have q1 : ¬ 9223372036854775807 < N.size + 1 + (decB n).size := by omega
  have HN : Hid (1 ≤ n ∧ n ≤ 1000) := ⟨h1, h2⟩
  clear h1 h2 s0 s1
  go_enter Tryz.func20, Tryz.ntmps20
  go_wp2_with fail
  have b0 : (w.alloc (.cells #[.int .i64 16, .int .i64 n, .int .i64 m, .string s] 37)).cell? ⟨w.heap.size, 0, none⟩ = some (.int .i64 16) := by simp
  have b1 : (w.alloc (.cells #[.int .i64 16, .int .i64 n, .int .i64 m, .string s] 37)).cell? ⟨w.heap.size, 1, none⟩ = some (.int .i64 n) := by simp
  go_region_with (go_at_call 35; refine (l2Names_any _).mono ?_; rintro e w1 ⟨rfl, hn, hb1⟩; have n0 : w1.cell? ⟨w.heap.size + 1, 16, none⟩ = some (.string N) := (by have := hn.one 16 (by omega); rw [← HNM.out]; simpa using this); have b0' : w1.cell? ⟨w.heap.size, 0, none⟩ = some (.int .i64 16) := (hb1.cell (p := ⟨w.heap.size, 0, none⟩) (block_lt_of_cell b0)).trans b0; have b1' : w1.cell? ⟨w.heap.size, 1, none⟩ = some (.int .i64 n) := (hb1.cell (p := ⟨w.heap.size, 1, none⟩) (block_lt_of_cell b1)).trans b1; have HB1 : Hid (Below w.heap.size w w1) := ((((Below.refl _ w).alloc (Nat.le_refl _) _).drew).trans (hb1.mono (by simp))))
  all_goals
    go_wp2_with (go_at_call 36; refine (l1Dec_any n (by have := HN.out; omega) (by have := HN.out; omega) _).mono ?_; rintro e w2 ⟨rfl, hb2⟩; have b0'' : w2.cell? ⟨w.heap.size, 0, none⟩ = some (.int .i64 16) := (hb2.cell (p := ⟨w.heap.size, 0, none⟩) (block_lt_of_cell b0')).trans b0')
    go_ret
    exact ⟨by rw [HT.out]; rfl, HB1.out.trans (hb2.mono HB1.out.size)⟩

set_option maxHeartbeats 4000000 in
theorem l2Text_17 (n m : Int) (s : ByteArray) (w : World)  :
    Calls Tryz.prog 20 #[.agg #[.int .i64 17, .int .i64 n, .int .i64 m, .string s]] w fun e w' => e = .returned (.string (opText 17 n m s)) ∧ Below w.heap.size w w' := by
  have HT : Hid (opText 17 n m s = nameB 17) := rfl
  have s0 := nameB_size 17
  generalize hN : nameB 17 = N at *
  have HNM : Hid (nameB 17 = N) := hN
  clear hN
  go_enter Tryz.func20, Tryz.ntmps20
  go_wp2_with fail
  have b0 : (w.alloc (.cells #[.int .i64 17, .int .i64 n, .int .i64 m, .string s] 37)).cell? ⟨w.heap.size, 0, none⟩ = some (.int .i64 17) := by simp
  go_region_with (go_at_call 35; refine (l2Names_any _).mono ?_; rintro e w1 ⟨rfl, hn, hb1⟩; have n0 : w1.cell? ⟨w.heap.size + 1, 17, none⟩ = some (.string N) := (by have := hn.one 17 (by omega); rw [← HNM.out]; simpa using this); have b0' : w1.cell? ⟨w.heap.size, 0, none⟩ = some (.int .i64 17) := (hb1.cell (p := ⟨w.heap.size, 0, none⟩) (block_lt_of_cell b0)).trans b0; have HB1 : Hid (Below w.heap.size w w1) := ((((Below.refl _ w).alloc (Nat.le_refl _) _).drew).trans (hb1.mono (by simp))))
  all_goals
    go_wp2
    go_ret
    exact ⟨by rw [HT.out]; rfl, HB1.out⟩

theorem l2Text_any (k n m : Int) (s : ByteArray) (w : World) (h : opB k n m s = true) :
    Calls Tryz.prog 20 #[.agg #[.int .i64 k, .int .i64 n, .int .i64 m, .string s]] w fun e w' => e = .returned (.string (opText k n m s)) ∧ Below w.heap.size w w' := by
  have hk : k = 1 ∨ k = 2 ∨ k = 3 ∨ k = 4 ∨ k = 5 ∨ k = 6 ∨ k = 7 ∨ k = 8 ∨ k = 9 ∨ k = 10 ∨ k = 11 ∨ k = 12 ∨ k = 13 ∨ k = 14 ∨ k = 15 ∨ k = 16 ∨ k = 17 := opR_kind h
  rcases hk with rfl | rfl | rfl | rfl | rfl | rfl | rfl | rfl | rfl | rfl | rfl | rfl | rfl | rfl | rfl | rfl | rfl
  · obtain ⟨a, b⟩ := opR_num (by decide) h; exact l2Text_1 n m s w a b
  · obtain ⟨a, b⟩ := opR_num (by decide) h; exact l2Text_2 n m s w a b
  · obtain ⟨a, b, c, d⟩ := opR_wait (by decide) h; exact l2Text_3 n m s w a b c d
  · obtain ⟨a, b⟩ := opR_num (by decide) h; exact l2Text_4 n m s w a b
  · obtain ⟨a, b⟩ := opR_num (by decide) h; exact l2Text_5 n m s w a b
  · obtain ⟨a, b⟩ := opR_num (by decide) h; exact l2Text_6 n m s w a b
  · obtain ⟨a, b, c, d⟩ := opR_wait (by decide) h; exact l2Text_7 n m s w a b c d
  · obtain ⟨a, b, c, d, e⟩ := opR_send h; exact l2Text_8 n m s w a b c d e
  · obtain ⟨a, b, c, d⟩ := opR_wait (by decide) h; exact l2Text_9 n m s w a b c d
  · obtain ⟨a, b, c⟩ := opR_text (by decide) h; exact l2Text_10 n m s w a b c
  · obtain ⟨a, b⟩ := opR_num (by decide) h; exact l2Text_11 n m s w a b
  · obtain ⟨a, b, c, d⟩ := opR_wait (by decide) h; exact l2Text_12 n m s w a b c d
  · obtain ⟨a, b, c⟩ := opR_text (by decide) h; exact l2Text_13 n m s w a b c
  · obtain ⟨a, b⟩ := opR_num (by decide) h; exact l2Text_14 n m s w a b
  · obtain ⟨a, b⟩ := opR_num (by decide) h; exact l2Text_15 n m s w a b
  · obtain ⟨a, b⟩ := opR_num (by decide) h; exact l2Text_16 n m s w a b
  · exact l2Text_17 n m s w

end Go.Proofs.YtlaeilcipibelaaGreatDoor

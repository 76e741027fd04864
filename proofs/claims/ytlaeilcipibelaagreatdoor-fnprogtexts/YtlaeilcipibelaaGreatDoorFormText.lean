/- The text of an op's form: what the program writes. -/
import Derived.Test.YtlaeilcipibelaaGreatDoorOpText
import Derived.Test.YtlaeilcipibelaaGreatDoorOpForms
import Derived.Test.YtlaeilcipibelaaGreatDoorPow
namespace Go.Proofs.YtlaeilcipibelaaGreatDoor
open Go.RowKit


set_option maxHeartbeats 4000000 in
theorem formText_1 (n m : Int) (s : ByteArray) (w : World) (hp : Pow w) (hw : NamesAt w 0) (h1 : 1 ≤ n) (h2 : n ≤ 1000) :
    Calls Tryz.prog 16 #[.iface 56 (.agg #[.int .i64 1, .int .i64 n])] w fun e w' => e = .returned (.string (opText 1 n m s)) ∧ Below w.heap.size w w' := by
  have h_bare := as_number_bare (.agg #[.int .i64 1, .int .i64 n])
  have h_number := as_number_number (.agg #[.int .i64 1, .int .i64 n])
  have HT : Hid (opText 1 n m s = nameB 1 ++ ⟨#[32]⟩ ++ decB n) := rfl
  have s0 := nameB_size 1
  have hg0 := hw.1
  have c0 : w.cell? ⟨0, 1, none⟩ = some (.string (nameB 1)) := hw.one 1 (by omega)
  generalize nameB 1 = N at *
  have s1 := decB_size (n := n) (by omega) (by omega)
  have q0 : ¬ 9223372036854775807 < N.size + 1 := by omega
  have q1 : ¬ 9223372036854775807 < N.size + 1 + (decB n).size := by omega
  have HN : Hid (1 ≤ n ∧ n ≤ 1000) := ⟨h1, h2⟩
  clear h1 h2 s0 s1
  have HP : Hid (Pow w) := hp
  clear hp hw
  have d0 : (w.alloc (.cells #[.int .i64 1, .int .i64 n] 56)).cell? ⟨0, 1, none⟩ = some (.string N) := (World.cell?_alloc_lt _ _ _ hg0).trans c0
  have b0 : (w.alloc (.cells #[.int .i64 1, .int .i64 n] 56)).cell? ⟨w.heap.size, 0, none⟩ = some (.int .i64 1) := by simp
  have b1 : (w.alloc (.cells #[.int .i64 1, .int .i64 n] 56)).cell? ⟨w.heap.size, 1, none⟩ = some (.int .i64 n) := by simp
  have HWA : Below w.heap.size w (w.alloc (.cells #[.int .i64 1, .int .i64 n] 56)) := (Below.refl _ w).alloc (Nat.le_refl _) _
  clear c0
  go_enter Tryz.func16, Tryz.ntmps16
  go_wp2_with fail
  generalize (w.alloc (.cells #[.int .i64 1, .int .i64 n] 56)) = WA at *
  have HPk : Hid (∀ X, Below w.heap.size w X → Pow X) := fun X hX => HP.out.below hX (Nat.le_refl _)
  go_region_held3 (fun w' => w'.cell? ⟨0, 1, none⟩ = some (.string N) ∧ w'.cell? ⟨w.heap.size, 0, none⟩ = some (.int .i64 1) ∧ w'.cell? ⟨w.heap.size, 1, none⟩ = some (.int .i64 n) ∧ Below w.heap.size w w') (first | exact ⟨d0, b0, b1, HWA.drew⟩ | (have hH := ‹_ ∧ _ ∧ _ ∧ Below w.heap.size w _›; exact ⟨(hb1.cell (p := ⟨0, 1, none⟩) (block_lt_of_cell hH.1)).trans hH.1, (hb1.cell (p := ⟨w.heap.size, 0, none⟩) (block_lt_of_cell hH.2.1)).trans hH.2.1, (hb1.cell (p := ⟨w.heap.size, 1, none⟩) (block_lt_of_cell hH.2.2.1)).trans hH.2.2.1, hH.2.2.2.trans (hb1.mono hH.2.2.2.size)⟩) | exact ⟨(hb1.cell (p := ⟨0, 1, none⟩) (block_lt_of_cell d0)).trans d0, (hb1.cell (p := ⟨w.heap.size, 0, none⟩) (block_lt_of_cell b0)).trans b0, (hb1.cell (p := ⟨w.heap.size, 1, none⟩) (block_lt_of_cell b1)).trans b1, HWA.drew.trans (hb1.mono HWA.size)⟩) (first | (go_at_call 28; refine (decimal_any _ (by have := HN.out; omega) (by have := HN.out; omega) _ (by first | exact HPk.out _ HWA | exact HPk.out _ (‹_ ∧ _ ∧ _ ∧ Below w.heap.size w _›).2.2.2)).mono ?_; rintro e w1 ⟨rfl, hb1⟩))
  rename_i hHeld
  have HB : Hid (Below w.heap.size w w1) := hHeld.2.2.2
  go_wp2
  go_ret
  exact ⟨by rw [HT.out]; rfl, HB.out⟩

set_option maxHeartbeats 4000000 in
theorem formText_2 (n m : Int) (s : ByteArray) (w : World) (hp : Pow w) (hw : NamesAt w 0) (h1 : 1 ≤ n) (h2 : n ≤ 1000) :
    Calls Tryz.prog 16 #[.iface 56 (.agg #[.int .i64 2, .int .i64 n])] w fun e w' => e = .returned (.string (opText 2 n m s)) ∧ Below w.heap.size w w' := by
  have h_bare := as_number_bare (.agg #[.int .i64 2, .int .i64 n])
  have h_number := as_number_number (.agg #[.int .i64 2, .int .i64 n])
  have HT : Hid (opText 2 n m s = nameB 2 ++ ⟨#[32]⟩ ++ decB n) := rfl
  have s0 := nameB_size 2
  have hg0 := hw.1
  have c0 : w.cell? ⟨0, 2, none⟩ = some (.string (nameB 2)) := hw.one 2 (by omega)
  generalize nameB 2 = N at *
  have s1 := decB_size (n := n) (by omega) (by omega)
  have q0 : ¬ 9223372036854775807 < N.size + 1 := by omega
  have q1 : ¬ 9223372036854775807 < N.size + 1 + (decB n).size := by omega
  have HN : Hid (1 ≤ n ∧ n ≤ 1000) := ⟨h1, h2⟩
  clear h1 h2 s0 s1
  have HP : Hid (Pow w) := hp
  clear hp hw
  have d0 : (w.alloc (.cells #[.int .i64 2, .int .i64 n] 56)).cell? ⟨0, 2, none⟩ = some (.string N) := (World.cell?_alloc_lt _ _ _ hg0).trans c0
  have b0 : (w.alloc (.cells #[.int .i64 2, .int .i64 n] 56)).cell? ⟨w.heap.size, 0, none⟩ = some (.int .i64 2) := by simp
  have b1 : (w.alloc (.cells #[.int .i64 2, .int .i64 n] 56)).cell? ⟨w.heap.size, 1, none⟩ = some (.int .i64 n) := by simp
  have HWA : Below w.heap.size w (w.alloc (.cells #[.int .i64 2, .int .i64 n] 56)) := (Below.refl _ w).alloc (Nat.le_refl _) _
  clear c0
  go_enter Tryz.func16, Tryz.ntmps16
  go_wp2_with fail
  generalize (w.alloc (.cells #[.int .i64 2, .int .i64 n] 56)) = WA at *
  have HPk : Hid (∀ X, Below w.heap.size w X → Pow X) := fun X hX => HP.out.below hX (Nat.le_refl _)
  go_region_held3 (fun w' => w'.cell? ⟨0, 2, none⟩ = some (.string N) ∧ w'.cell? ⟨w.heap.size, 0, none⟩ = some (.int .i64 2) ∧ w'.cell? ⟨w.heap.size, 1, none⟩ = some (.int .i64 n) ∧ Below w.heap.size w w') (first | exact ⟨d0, b0, b1, HWA.drew⟩ | (have hH := ‹_ ∧ _ ∧ _ ∧ Below w.heap.size w _›; exact ⟨(hb1.cell (p := ⟨0, 2, none⟩) (block_lt_of_cell hH.1)).trans hH.1, (hb1.cell (p := ⟨w.heap.size, 0, none⟩) (block_lt_of_cell hH.2.1)).trans hH.2.1, (hb1.cell (p := ⟨w.heap.size, 1, none⟩) (block_lt_of_cell hH.2.2.1)).trans hH.2.2.1, hH.2.2.2.trans (hb1.mono hH.2.2.2.size)⟩) | exact ⟨(hb1.cell (p := ⟨0, 2, none⟩) (block_lt_of_cell d0)).trans d0, (hb1.cell (p := ⟨w.heap.size, 0, none⟩) (block_lt_of_cell b0)).trans b0, (hb1.cell (p := ⟨w.heap.size, 1, none⟩) (block_lt_of_cell b1)).trans b1, HWA.drew.trans (hb1.mono HWA.size)⟩) (first | (go_at_call 28; refine (decimal_any _ (by have := HN.out; omega) (by have := HN.out; omega) _ (by first | exact HPk.out _ HWA | exact HPk.out _ (‹_ ∧ _ ∧ _ ∧ Below w.heap.size w _›).2.2.2)).mono ?_; rintro e w1 ⟨rfl, hb1⟩))
  rename_i hHeld
  have HB : Hid (Below w.heap.size w w1) := hHeld.2.2.2
  go_wp2
  go_ret
  exact ⟨by rw [HT.out]; rfl, HB.out⟩

set_option maxHeartbeats 4000000 in
theorem formText_3 (n m : Int) (s : ByteArray) (w : World) (hp : Pow w) (hw : NamesAt w 0) (h1 : 1 ≤ n) (h2 : n ≤ 1000) (h3 : -1 ≤ m) (h4 : m ≤ 1000) :
    Calls Tryz.prog 16 #[.iface 58 (.agg #[.int .i64 3, .int .i64 n, .int .i64 m])] w fun e w' => e = .returned (.string (opText 3 n m s)) ∧ Below w.heap.size w w' := by
  have h_bare := as_wait_bare (.agg #[.int .i64 3, .int .i64 n, .int .i64 m])
  have h_number := as_wait_number (.agg #[.int .i64 3, .int .i64 n, .int .i64 m])
  have h_wait := as_wait_wait (.agg #[.int .i64 3, .int .i64 n, .int .i64 m])
  have HT : Hid (opText 3 n m s = nameB 3 ++ ⟨#[32]⟩ ++ decB n ++ ⟨#[32]⟩ ++ decB m) := rfl
  have s0 := nameB_size 3
  have hg0 := hw.1
  have c0 : w.cell? ⟨0, 3, none⟩ = some (.string (nameB 3)) := hw.one 3 (by omega)
  generalize nameB 3 = N at *
  have s1 := decB_size (n := n) (by omega) (by omega)
  have s2 := decB_size (n := m) (by omega) (by omega)
  have q0 : ¬ 9223372036854775807 < N.size + 1 := by omega
  have q1 : ¬ 9223372036854775807 < N.size + 1 + (decB n).size := by omega
  have q2 : ¬ 9223372036854775807 < N.size + 1 + (decB n).size + 1 := by omega
  have q3 : ¬ 9223372036854775807 < N.size + 1 + (decB n).size + 1 + (decB m).size := by omega
  have HN : Hid (1 ≤ n ∧ n ≤ 1000) := ⟨h1, h2⟩
  have HM : Hid (-1 ≤ m ∧ m ≤ 1000) := ⟨h3, h4⟩
  clear h1 h2 s0 s1 h3 h4 s2
  have HP : Hid (Pow w) := hp
  clear hp hw
  have d0 : (w.alloc (.cells #[.int .i64 3, .int .i64 n, .int .i64 m] 58)).cell? ⟨0, 3, none⟩ = some (.string N) := (World.cell?_alloc_lt _ _ _ hg0).trans c0
  have b0 : (w.alloc (.cells #[.int .i64 3, .int .i64 n, .int .i64 m] 58)).cell? ⟨w.heap.size, 0, none⟩ = some (.int .i64 3) := by simp
  have b1 : (w.alloc (.cells #[.int .i64 3, .int .i64 n, .int .i64 m] 58)).cell? ⟨w.heap.size, 1, none⟩ = some (.int .i64 n) := by simp
  have b2 : (w.alloc (.cells #[.int .i64 3, .int .i64 n, .int .i64 m] 58)).cell? ⟨w.heap.size, 2, none⟩ = some (.int .i64 m) := by simp
  have HWA : Below w.heap.size w (w.alloc (.cells #[.int .i64 3, .int .i64 n, .int .i64 m] 58)) := (Below.refl _ w).alloc (Nat.le_refl _) _
  clear c0
  go_enter Tryz.func16, Tryz.ntmps16
  go_wp2_with fail
  generalize (w.alloc (.cells #[.int .i64 3, .int .i64 n, .int .i64 m] 58)) = WA at *
  have HPk : Hid (∀ X, Below w.heap.size w X → Pow X) := fun X hX => HP.out.below hX (Nat.le_refl _)
  go_region_held3 (fun w' => w'.cell? ⟨0, 3, none⟩ = some (.string N) ∧ w'.cell? ⟨w.heap.size, 0, none⟩ = some (.int .i64 3) ∧ w'.cell? ⟨w.heap.size, 1, none⟩ = some (.int .i64 n) ∧ w'.cell? ⟨w.heap.size, 2, none⟩ = some (.int .i64 m) ∧ Below w.heap.size w w') (first | exact ⟨d0, b0, b1, b2, HWA.drew⟩ | (have hH := ‹_ ∧ _ ∧ _ ∧ _ ∧ Below w.heap.size w _›; exact ⟨(hb1.cell (p := ⟨0, 3, none⟩) (block_lt_of_cell hH.1)).trans hH.1, (hb1.cell (p := ⟨w.heap.size, 0, none⟩) (block_lt_of_cell hH.2.1)).trans hH.2.1, (hb1.cell (p := ⟨w.heap.size, 1, none⟩) (block_lt_of_cell hH.2.2.1)).trans hH.2.2.1, (hb1.cell (p := ⟨w.heap.size, 2, none⟩) (block_lt_of_cell hH.2.2.2.1)).trans hH.2.2.2.1, hH.2.2.2.2.trans (hb1.mono hH.2.2.2.2.size)⟩) | exact ⟨(hb1.cell (p := ⟨0, 3, none⟩) (block_lt_of_cell d0)).trans d0, (hb1.cell (p := ⟨w.heap.size, 0, none⟩) (block_lt_of_cell b0)).trans b0, (hb1.cell (p := ⟨w.heap.size, 1, none⟩) (block_lt_of_cell b1)).trans b1, (hb1.cell (p := ⟨w.heap.size, 2, none⟩) (block_lt_of_cell b2)).trans b2, HWA.drew.trans (hb1.mono HWA.size)⟩) (first | (go_at_call 28; refine (decimal_any _ (by first | (have := HN.out; omega) | (have := HM.out; omega)) (by first | (have := HN.out; omega) | (have := HM.out; omega)) _ (by first | exact HPk.out _ HWA | exact HPk.out _ (‹_ ∧ _ ∧ _ ∧ _ ∧ Below w.heap.size w _›).2.2.2.2)).mono ?_; rintro e w1 ⟨rfl, hb1⟩))
  rename_i hHeld
  have HB : Hid (Below w.heap.size w w1) := hHeld.2.2.2.2
  go_wp2
  go_ret
  exact ⟨by rw [HT.out]; rfl, HB.out⟩

set_option maxHeartbeats 4000000 in
theorem formText_4 (n m : Int) (s : ByteArray) (w : World) (hp : Pow w) (hw : NamesAt w 0) (h1 : 1 ≤ n) (h2 : n ≤ 1000) :
    Calls Tryz.prog 16 #[.iface 56 (.agg #[.int .i64 4, .int .i64 n])] w fun e w' => e = .returned (.string (opText 4 n m s)) ∧ Below w.heap.size w w' := by
  have h_bare := as_number_bare (.agg #[.int .i64 4, .int .i64 n])
  have h_number := as_number_number (.agg #[.int .i64 4, .int .i64 n])
  have HT : Hid (opText 4 n m s = nameB 4 ++ ⟨#[32]⟩ ++ decB n) := rfl
  have s0 := nameB_size 4
  have hg0 := hw.1
  have c0 : w.cell? ⟨0, 4, none⟩ = some (.string (nameB 4)) := hw.one 4 (by omega)
  generalize nameB 4 = N at *
  have s1 := decB_size (n := n) (by omega) (by omega)
  have q0 : ¬ 9223372036854775807 < N.size + 1 := by omega
  have q1 : ¬ 9223372036854775807 < N.size + 1 + (decB n).size := by omega
  have HN : Hid (1 ≤ n ∧ n ≤ 1000) := ⟨h1, h2⟩
  clear h1 h2 s0 s1
  have HP : Hid (Pow w) := hp
  clear hp hw
  have d0 : (w.alloc (.cells #[.int .i64 4, .int .i64 n] 56)).cell? ⟨0, 4, none⟩ = some (.string N) := (World.cell?_alloc_lt _ _ _ hg0).trans c0
  have b0 : (w.alloc (.cells #[.int .i64 4, .int .i64 n] 56)).cell? ⟨w.heap.size, 0, none⟩ = some (.int .i64 4) := by simp
  have b1 : (w.alloc (.cells #[.int .i64 4, .int .i64 n] 56)).cell? ⟨w.heap.size, 1, none⟩ = some (.int .i64 n) := by simp
  have HWA : Below w.heap.size w (w.alloc (.cells #[.int .i64 4, .int .i64 n] 56)) := (Below.refl _ w).alloc (Nat.le_refl _) _
  clear c0
  go_enter Tryz.func16, Tryz.ntmps16
  go_wp2_with fail
  generalize (w.alloc (.cells #[.int .i64 4, .int .i64 n] 56)) = WA at *
  have HPk : Hid (∀ X, Below w.heap.size w X → Pow X) := fun X hX => HP.out.below hX (Nat.le_refl _)
  go_region_held3 (fun w' => w'.cell? ⟨0, 4, none⟩ = some (.string N) ∧ w'.cell? ⟨w.heap.size, 0, none⟩ = some (.int .i64 4) ∧ w'.cell? ⟨w.heap.size, 1, none⟩ = some (.int .i64 n) ∧ Below w.heap.size w w') (first | exact ⟨d0, b0, b1, HWA.drew⟩ | (have hH := ‹_ ∧ _ ∧ _ ∧ Below w.heap.size w _›; exact ⟨(hb1.cell (p := ⟨0, 4, none⟩) (block_lt_of_cell hH.1)).trans hH.1, (hb1.cell (p := ⟨w.heap.size, 0, none⟩) (block_lt_of_cell hH.2.1)).trans hH.2.1, (hb1.cell (p := ⟨w.heap.size, 1, none⟩) (block_lt_of_cell hH.2.2.1)).trans hH.2.2.1, hH.2.2.2.trans (hb1.mono hH.2.2.2.size)⟩) | exact ⟨(hb1.cell (p := ⟨0, 4, none⟩) (block_lt_of_cell d0)).trans d0, (hb1.cell (p := ⟨w.heap.size, 0, none⟩) (block_lt_of_cell b0)).trans b0, (hb1.cell (p := ⟨w.heap.size, 1, none⟩) (block_lt_of_cell b1)).trans b1, HWA.drew.trans (hb1.mono HWA.size)⟩) (first | (go_at_call 28; refine (decimal_any _ (by have := HN.out; omega) (by have := HN.out; omega) _ (by first | exact HPk.out _ HWA | exact HPk.out _ (‹_ ∧ _ ∧ _ ∧ Below w.heap.size w _›).2.2.2)).mono ?_; rintro e w1 ⟨rfl, hb1⟩))
  rename_i hHeld
  have HB : Hid (Below w.heap.size w w1) := hHeld.2.2.2
  go_wp2
  go_ret
  exact ⟨by rw [HT.out]; rfl, HB.out⟩

set_option maxHeartbeats 4000000 in
theorem formText_5 (n m : Int) (s : ByteArray) (w : World) (hp : Pow w) (hw : NamesAt w 0) (h1 : 1 ≤ n) (h2 : n ≤ 1000) :
    Calls Tryz.prog 16 #[.iface 56 (.agg #[.int .i64 5, .int .i64 n])] w fun e w' => e = .returned (.string (opText 5 n m s)) ∧ Below w.heap.size w w' := by
  have h_bare := as_number_bare (.agg #[.int .i64 5, .int .i64 n])
  have h_number := as_number_number (.agg #[.int .i64 5, .int .i64 n])
  have HT : Hid (opText 5 n m s = nameB 5 ++ ⟨#[32]⟩ ++ decB n) := rfl
  have s0 := nameB_size 5
  have hg0 := hw.1
  have c0 : w.cell? ⟨0, 5, none⟩ = some (.string (nameB 5)) := hw.one 5 (by omega)
  generalize nameB 5 = N at *
  have s1 := decB_size (n := n) (by omega) (by omega)
  have q0 : ¬ 9223372036854775807 < N.size + 1 := by omega
  have q1 : ¬ 9223372036854775807 < N.size + 1 + (decB n).size := by omega
  have HN : Hid (1 ≤ n ∧ n ≤ 1000) := ⟨h1, h2⟩
  clear h1 h2 s0 s1
  have HP : Hid (Pow w) := hp
  clear hp hw
  have d0 : (w.alloc (.cells #[.int .i64 5, .int .i64 n] 56)).cell? ⟨0, 5, none⟩ = some (.string N) := (World.cell?_alloc_lt _ _ _ hg0).trans c0
  have b0 : (w.alloc (.cells #[.int .i64 5, .int .i64 n] 56)).cell? ⟨w.heap.size, 0, none⟩ = some (.int .i64 5) := by simp
  have b1 : (w.alloc (.cells #[.int .i64 5, .int .i64 n] 56)).cell? ⟨w.heap.size, 1, none⟩ = some (.int .i64 n) := by simp
  have HWA : Below w.heap.size w (w.alloc (.cells #[.int .i64 5, .int .i64 n] 56)) := (Below.refl _ w).alloc (Nat.le_refl _) _
  clear c0
  go_enter Tryz.func16, Tryz.ntmps16
  go_wp2_with fail
  generalize (w.alloc (.cells #[.int .i64 5, .int .i64 n] 56)) = WA at *
  have HPk : Hid (∀ X, Below w.heap.size w X → Pow X) := fun X hX => HP.out.below hX (Nat.le_refl _)
  go_region_held3 (fun w' => w'.cell? ⟨0, 5, none⟩ = some (.string N) ∧ w'.cell? ⟨w.heap.size, 0, none⟩ = some (.int .i64 5) ∧ w'.cell? ⟨w.heap.size, 1, none⟩ = some (.int .i64 n) ∧ Below w.heap.size w w') (first | exact ⟨d0, b0, b1, HWA.drew⟩ | (have hH := ‹_ ∧ _ ∧ _ ∧ Below w.heap.size w _›; exact ⟨(hb1.cell (p := ⟨0, 5, none⟩) (block_lt_of_cell hH.1)).trans hH.1, (hb1.cell (p := ⟨w.heap.size, 0, none⟩) (block_lt_of_cell hH.2.1)).trans hH.2.1, (hb1.cell (p := ⟨w.heap.size, 1, none⟩) (block_lt_of_cell hH.2.2.1)).trans hH.2.2.1, hH.2.2.2.trans (hb1.mono hH.2.2.2.size)⟩) | exact ⟨(hb1.cell (p := ⟨0, 5, none⟩) (block_lt_of_cell d0)).trans d0, (hb1.cell (p := ⟨w.heap.size, 0, none⟩) (block_lt_of_cell b0)).trans b0, (hb1.cell (p := ⟨w.heap.size, 1, none⟩) (block_lt_of_cell b1)).trans b1, HWA.drew.trans (hb1.mono HWA.size)⟩) (first | (go_at_call 28; refine (decimal_any _ (by have := HN.out; omega) (by have := HN.out; omega) _ (by first | exact HPk.out _ HWA | exact HPk.out _ (‹_ ∧ _ ∧ _ ∧ Below w.heap.size w _›).2.2.2)).mono ?_; rintro e w1 ⟨rfl, hb1⟩))
  rename_i hHeld
  have HB : Hid (Below w.heap.size w w1) := hHeld.2.2.2
  go_wp2
  go_ret
  exact ⟨by rw [HT.out]; rfl, HB.out⟩

set_option maxHeartbeats 4000000 in
theorem formText_6 (n m : Int) (s : ByteArray) (w : World) (hp : Pow w) (hw : NamesAt w 0) (h1 : 1 ≤ n) (h2 : n ≤ 1000) :
    Calls Tryz.prog 16 #[.iface 56 (.agg #[.int .i64 6, .int .i64 n])] w fun e w' => e = .returned (.string (opText 6 n m s)) ∧ Below w.heap.size w w' := by
  have h_bare := as_number_bare (.agg #[.int .i64 6, .int .i64 n])
  have h_number := as_number_number (.agg #[.int .i64 6, .int .i64 n])
  have HT : Hid (opText 6 n m s = nameB 6 ++ ⟨#[32]⟩ ++ decB n) := rfl
  have s0 := nameB_size 6
  have hg0 := hw.1
  have c0 : w.cell? ⟨0, 6, none⟩ = some (.string (nameB 6)) := hw.one 6 (by omega)
  generalize nameB 6 = N at *
  have s1 := decB_size (n := n) (by omega) (by omega)
  have q0 : ¬ 9223372036854775807 < N.size + 1 := by omega
  have q1 : ¬ 9223372036854775807 < N.size + 1 + (decB n).size := by omega
  have HN : Hid (1 ≤ n ∧ n ≤ 1000) := ⟨h1, h2⟩
  clear h1 h2 s0 s1
  have HP : Hid (Pow w) := hp
  clear hp hw
  have d0 : (w.alloc (.cells #[.int .i64 6, .int .i64 n] 56)).cell? ⟨0, 6, none⟩ = some (.string N) := (World.cell?_alloc_lt _ _ _ hg0).trans c0
  have b0 : (w.alloc (.cells #[.int .i64 6, .int .i64 n] 56)).cell? ⟨w.heap.size, 0, none⟩ = some (.int .i64 6) := by simp
  have b1 : (w.alloc (.cells #[.int .i64 6, .int .i64 n] 56)).cell? ⟨w.heap.size, 1, none⟩ = some (.int .i64 n) := by simp
  have HWA : Below w.heap.size w (w.alloc (.cells #[.int .i64 6, .int .i64 n] 56)) := (Below.refl _ w).alloc (Nat.le_refl _) _
  clear c0
  go_enter Tryz.func16, Tryz.ntmps16
  go_wp2_with fail
  generalize (w.alloc (.cells #[.int .i64 6, .int .i64 n] 56)) = WA at *
  have HPk : Hid (∀ X, Below w.heap.size w X → Pow X) := fun X hX => HP.out.below hX (Nat.le_refl _)
  go_region_held3 (fun w' => w'.cell? ⟨0, 6, none⟩ = some (.string N) ∧ w'.cell? ⟨w.heap.size, 0, none⟩ = some (.int .i64 6) ∧ w'.cell? ⟨w.heap.size, 1, none⟩ = some (.int .i64 n) ∧ Below w.heap.size w w') (first | exact ⟨d0, b0, b1, HWA.drew⟩ | (have hH := ‹_ ∧ _ ∧ _ ∧ Below w.heap.size w _›; exact ⟨(hb1.cell (p := ⟨0, 6, none⟩) (block_lt_of_cell hH.1)).trans hH.1, (hb1.cell (p := ⟨w.heap.size, 0, none⟩) (block_lt_of_cell hH.2.1)).trans hH.2.1, (hb1.cell (p := ⟨w.heap.size, 1, none⟩) (block_lt_of_cell hH.2.2.1)).trans hH.2.2.1, hH.2.2.2.trans (hb1.mono hH.2.2.2.size)⟩) | exact ⟨(hb1.cell (p := ⟨0, 6, none⟩) (block_lt_of_cell d0)).trans d0, (hb1.cell (p := ⟨w.heap.size, 0, none⟩) (block_lt_of_cell b0)).trans b0, (hb1.cell (p := ⟨w.heap.size, 1, none⟩) (block_lt_of_cell b1)).trans b1, HWA.drew.trans (hb1.mono HWA.size)⟩) (first | (go_at_call 28; refine (decimal_any _ (by have := HN.out; omega) (by have := HN.out; omega) _ (by first | exact HPk.out _ HWA | exact HPk.out _ (‹_ ∧ _ ∧ _ ∧ Below w.heap.size w _›).2.2.2)).mono ?_; rintro e w1 ⟨rfl, hb1⟩))
  rename_i hHeld
  have HB : Hid (Below w.heap.size w w1) := hHeld.2.2.2
  go_wp2
  go_ret
  exact ⟨by rw [HT.out]; rfl, HB.out⟩

set_option maxHeartbeats 4000000 in
theorem formText_7 (n m : Int) (s : ByteArray) (w : World) (hp : Pow w) (hw : NamesAt w 0) (h1 : 1 ≤ n) (h2 : n ≤ 1000) (h3 : -1 ≤ m) (h4 : m ≤ 1000) :
    Calls Tryz.prog 16 #[.iface 58 (.agg #[.int .i64 7, .int .i64 n, .int .i64 m])] w fun e w' => e = .returned (.string (opText 7 n m s)) ∧ Below w.heap.size w w' := by
  have h_bare := as_wait_bare (.agg #[.int .i64 7, .int .i64 n, .int .i64 m])
  have h_number := as_wait_number (.agg #[.int .i64 7, .int .i64 n, .int .i64 m])
  have h_wait := as_wait_wait (.agg #[.int .i64 7, .int .i64 n, .int .i64 m])
  have HT : Hid (opText 7 n m s = nameB 7 ++ ⟨#[32]⟩ ++ decB n ++ ⟨#[32]⟩ ++ decB m) := rfl
  have s0 := nameB_size 7
  have hg0 := hw.1
  have c0 : w.cell? ⟨0, 7, none⟩ = some (.string (nameB 7)) := hw.one 7 (by omega)
  generalize nameB 7 = N at *
  have s1 := decB_size (n := n) (by omega) (by omega)
  have s2 := decB_size (n := m) (by omega) (by omega)
  have q0 : ¬ 9223372036854775807 < N.size + 1 := by omega
  have q1 : ¬ 9223372036854775807 < N.size + 1 + (decB n).size := by omega
  have q2 : ¬ 9223372036854775807 < N.size + 1 + (decB n).size + 1 := by omega
  have q3 : ¬ 9223372036854775807 < N.size + 1 + (decB n).size + 1 + (decB m).size := by omega
  have HN : Hid (1 ≤ n ∧ n ≤ 1000) := ⟨h1, h2⟩
  have HM : Hid (-1 ≤ m ∧ m ≤ 1000) := ⟨h3, h4⟩
  clear h1 h2 s0 s1 h3 h4 s2
  have HP : Hid (Pow w) := hp
  clear hp hw
  have d0 : (w.alloc (.cells #[.int .i64 7, .int .i64 n, .int .i64 m] 58)).cell? ⟨0, 7, none⟩ = some (.string N) := (World.cell?_alloc_lt _ _ _ hg0).trans c0
  have b0 : (w.alloc (.cells #[.int .i64 7, .int .i64 n, .int .i64 m] 58)).cell? ⟨w.heap.size, 0, none⟩ = some (.int .i64 7) := by simp
  have b1 : (w.alloc (.cells #[.int .i64 7, .int .i64 n, .int .i64 m] 58)).cell? ⟨w.heap.size, 1, none⟩ = some (.int .i64 n) := by simp
  have b2 : (w.alloc (.cells #[.int .i64 7, .int .i64 n, .int .i64 m] 58)).cell? ⟨w.heap.size, 2, none⟩ = some (.int .i64 m) := by simp
  have HWA : Below w.heap.size w (w.alloc (.cells #[.int .i64 7, .int .i64 n, .int .i64 m] 58)) := (Below.refl _ w).alloc (Nat.le_refl _) _
  clear c0
  go_enter Tryz.func16, Tryz.ntmps16
  go_wp2_with fail
  generalize (w.alloc (.cells #[.int .i64 7, .int .i64 n, .int .i64 m] 58)) = WA at *
  have HPk : Hid (∀ X, Below w.heap.size w X → Pow X) := fun X hX => HP.out.below hX (Nat.le_refl _)
  go_region_held3 (fun w' => w'.cell? ⟨0, 7, none⟩ = some (.string N) ∧ w'.cell? ⟨w.heap.size, 0, none⟩ = some (.int .i64 7) ∧ w'.cell? ⟨w.heap.size, 1, none⟩ = some (.int .i64 n) ∧ w'.cell? ⟨w.heap.size, 2, none⟩ = some (.int .i64 m) ∧ Below w.heap.size w w') (first | exact ⟨d0, b0, b1, b2, HWA.drew⟩ | (have hH := ‹_ ∧ _ ∧ _ ∧ _ ∧ Below w.heap.size w _›; exact ⟨(hb1.cell (p := ⟨0, 7, none⟩) (block_lt_of_cell hH.1)).trans hH.1, (hb1.cell (p := ⟨w.heap.size, 0, none⟩) (block_lt_of_cell hH.2.1)).trans hH.2.1, (hb1.cell (p := ⟨w.heap.size, 1, none⟩) (block_lt_of_cell hH.2.2.1)).trans hH.2.2.1, (hb1.cell (p := ⟨w.heap.size, 2, none⟩) (block_lt_of_cell hH.2.2.2.1)).trans hH.2.2.2.1, hH.2.2.2.2.trans (hb1.mono hH.2.2.2.2.size)⟩) | exact ⟨(hb1.cell (p := ⟨0, 7, none⟩) (block_lt_of_cell d0)).trans d0, (hb1.cell (p := ⟨w.heap.size, 0, none⟩) (block_lt_of_cell b0)).trans b0, (hb1.cell (p := ⟨w.heap.size, 1, none⟩) (block_lt_of_cell b1)).trans b1, (hb1.cell (p := ⟨w.heap.size, 2, none⟩) (block_lt_of_cell b2)).trans b2, HWA.drew.trans (hb1.mono HWA.size)⟩) (first | (go_at_call 28; refine (decimal_any _ (by first | (have := HN.out; omega) | (have := HM.out; omega)) (by first | (have := HN.out; omega) | (have := HM.out; omega)) _ (by first | exact HPk.out _ HWA | exact HPk.out _ (‹_ ∧ _ ∧ _ ∧ _ ∧ Below w.heap.size w _›).2.2.2.2)).mono ?_; rintro e w1 ⟨rfl, hb1⟩))
  rename_i hHeld
  have HB : Hid (Below w.heap.size w w1) := hHeld.2.2.2.2
  go_wp2
  go_ret
  exact ⟨by rw [HT.out]; rfl, HB.out⟩

set_option maxHeartbeats 4000000 in
theorem formText_8 (n m : Int) (s : ByteArray) (w : World) (hp : Pow w) (hw : NamesAt w 0) (h1 : 1 ≤ n) (h2 : n ≤ 1000) (h3 : -1 ≤ m) (h4 : m ≤ 1000) (hs : s.size ≤ 20) :
    Calls Tryz.prog 16 #[.iface 60 (.agg #[.int .i64 8, .int .i64 n, .int .i64 m, .string s])] w fun e w' => e = .returned (.string (opText 8 n m s)) ∧ Below w.heap.size w w' := by
  have h_bare := as_send_bare (.agg #[.int .i64 8, .int .i64 n, .int .i64 m, .string s])
  have h_number := as_send_number (.agg #[.int .i64 8, .int .i64 n, .int .i64 m, .string s])
  have h_wait := as_send_wait (.agg #[.int .i64 8, .int .i64 n, .int .i64 m, .string s])
  have h_send := as_send_send (.agg #[.int .i64 8, .int .i64 n, .int .i64 m, .string s])
  have HT : Hid (opText 8 n m s = nameB 8 ++ ⟨#[32]⟩ ++ decB n ++ ⟨#[32]⟩ ++ decB m ++ ⟨#[32]⟩ ++ s) := rfl
  have s0 := nameB_size 8
  have hg0 := hw.1
  have c0 : w.cell? ⟨0, 8, none⟩ = some (.string (nameB 8)) := hw.one 8 (by omega)
  generalize nameB 8 = N at *
  have s1 := decB_size (n := n) (by omega) (by omega)
  have s2 := decB_size (n := m) (by omega) (by omega)
  have q0 : ¬ 9223372036854775807 < N.size + 1 := by omega
  have q1 : ¬ 9223372036854775807 < N.size + 1 + (decB n).size := by omega
  have q2 : ¬ 9223372036854775807 < N.size + 1 + (decB n).size + 1 := by omega
  have q3 : ¬ 9223372036854775807 < N.size + 1 + (decB n).size + 1 + (decB m).size := by omega
  have q4 : ¬ 9223372036854775807 < N.size + 1 + (decB n).size + 1 + (decB m).size + 1 := by omega
  have q5 : ¬ 9223372036854775807 < N.size + 1 + (decB n).size + 1 + (decB m).size + 1 + s.size := by omega
  have HN : Hid (1 ≤ n ∧ n ≤ 1000) := ⟨h1, h2⟩
  have HM : Hid (-1 ≤ m ∧ m ≤ 1000) := ⟨h3, h4⟩
  clear h1 h2 s0 s1 h3 h4 s2 hs
  have HP : Hid (Pow w) := hp
  clear hp hw
  have d0 : (w.alloc (.cells #[.int .i64 8, .int .i64 n, .int .i64 m, .string s] 60)).cell? ⟨0, 8, none⟩ = some (.string N) := (World.cell?_alloc_lt _ _ _ hg0).trans c0
  have b0 : (w.alloc (.cells #[.int .i64 8, .int .i64 n, .int .i64 m, .string s] 60)).cell? ⟨w.heap.size, 0, none⟩ = some (.int .i64 8) := by simp
  have b1 : (w.alloc (.cells #[.int .i64 8, .int .i64 n, .int .i64 m, .string s] 60)).cell? ⟨w.heap.size, 1, none⟩ = some (.int .i64 n) := by simp
  have b2 : (w.alloc (.cells #[.int .i64 8, .int .i64 n, .int .i64 m, .string s] 60)).cell? ⟨w.heap.size, 2, none⟩ = some (.int .i64 m) := by simp
  have b3 : (w.alloc (.cells #[.int .i64 8, .int .i64 n, .int .i64 m, .string s] 60)).cell? ⟨w.heap.size, 3, none⟩ = some (.string s) := by simp
  have HWA : Below w.heap.size w (w.alloc (.cells #[.int .i64 8, .int .i64 n, .int .i64 m, .string s] 60)) := (Below.refl _ w).alloc (Nat.le_refl _) _
  clear c0
  go_enter Tryz.func16, Tryz.ntmps16
  go_wp2_with fail
  generalize (w.alloc (.cells #[.int .i64 8, .int .i64 n, .int .i64 m, .string s] 60)) = WA at *
  have HPk : Hid (∀ X, Below w.heap.size w X → Pow X) := fun X hX => HP.out.below hX (Nat.le_refl _)
  go_region_held3 (fun w' => w'.cell? ⟨0, 8, none⟩ = some (.string N) ∧ w'.cell? ⟨w.heap.size, 0, none⟩ = some (.int .i64 8) ∧ w'.cell? ⟨w.heap.size, 1, none⟩ = some (.int .i64 n) ∧ w'.cell? ⟨w.heap.size, 2, none⟩ = some (.int .i64 m) ∧ w'.cell? ⟨w.heap.size, 3, none⟩ = some (.string s) ∧ Below w.heap.size w w') (first | exact ⟨d0, b0, b1, b2, b3, HWA.drew⟩ | (have hH := ‹_ ∧ _ ∧ _ ∧ _ ∧ _ ∧ Below w.heap.size w _›; exact ⟨(hb1.cell (p := ⟨0, 8, none⟩) (block_lt_of_cell hH.1)).trans hH.1, (hb1.cell (p := ⟨w.heap.size, 0, none⟩) (block_lt_of_cell hH.2.1)).trans hH.2.1, (hb1.cell (p := ⟨w.heap.size, 1, none⟩) (block_lt_of_cell hH.2.2.1)).trans hH.2.2.1, (hb1.cell (p := ⟨w.heap.size, 2, none⟩) (block_lt_of_cell hH.2.2.2.1)).trans hH.2.2.2.1, (hb1.cell (p := ⟨w.heap.size, 3, none⟩) (block_lt_of_cell hH.2.2.2.2.1)).trans hH.2.2.2.2.1, hH.2.2.2.2.2.trans (hb1.mono hH.2.2.2.2.2.size)⟩) | exact ⟨(hb1.cell (p := ⟨0, 8, none⟩) (block_lt_of_cell d0)).trans d0, (hb1.cell (p := ⟨w.heap.size, 0, none⟩) (block_lt_of_cell b0)).trans b0, (hb1.cell (p := ⟨w.heap.size, 1, none⟩) (block_lt_of_cell b1)).trans b1, (hb1.cell (p := ⟨w.heap.size, 2, none⟩) (block_lt_of_cell b2)).trans b2, (hb1.cell (p := ⟨w.heap.size, 3, none⟩) (block_lt_of_cell b3)).trans b3, HWA.drew.trans (hb1.mono HWA.size)⟩) (first | (go_at_call 28; refine (decimal_any _ (by first | (have := HN.out; omega) | (have := HM.out; omega)) (by first | (have := HN.out; omega) | (have := HM.out; omega)) _ (by first | exact HPk.out _ HWA | exact HPk.out _ (‹_ ∧ _ ∧ _ ∧ _ ∧ _ ∧ Below w.heap.size w _›).2.2.2.2.2)).mono ?_; rintro e w1 ⟨rfl, hb1⟩))
  rename_i hHeld
  have HB : Hid (Below w.heap.size w w1) := hHeld.2.2.2.2.2
  go_wp2
  go_ret
  exact ⟨by rw [HT.out]; rfl, HB.out⟩

set_option maxHeartbeats 4000000 in
theorem formText_9 (n m : Int) (s : ByteArray) (w : World) (hp : Pow w) (hw : NamesAt w 0) (h1 : 1 ≤ n) (h2 : n ≤ 1000) (h3 : -1 ≤ m) (h4 : m ≤ 1000) :
    Calls Tryz.prog 16 #[.iface 58 (.agg #[.int .i64 9, .int .i64 n, .int .i64 m])] w fun e w' => e = .returned (.string (opText 9 n m s)) ∧ Below w.heap.size w w' := by
  have h_bare := as_wait_bare (.agg #[.int .i64 9, .int .i64 n, .int .i64 m])
  have h_number := as_wait_number (.agg #[.int .i64 9, .int .i64 n, .int .i64 m])
  have h_wait := as_wait_wait (.agg #[.int .i64 9, .int .i64 n, .int .i64 m])
  have HT : Hid (opText 9 n m s = nameB 9 ++ ⟨#[32]⟩ ++ decB n ++ ⟨#[32]⟩ ++ decB m) := rfl
  have s0 := nameB_size 9
  have hg0 := hw.1
  have c0 : w.cell? ⟨0, 9, none⟩ = some (.string (nameB 9)) := hw.one 9 (by omega)
  generalize nameB 9 = N at *
  have s1 := decB_size (n := n) (by omega) (by omega)
  have s2 := decB_size (n := m) (by omega) (by omega)
  have q0 : ¬ 9223372036854775807 < N.size + 1 := by omega
  have q1 : ¬ 9223372036854775807 < N.size + 1 + (decB n).size := by omega
  have q2 : ¬ 9223372036854775807 < N.size + 1 + (decB n).size + 1 := by omega
  have q3 : ¬ 9223372036854775807 < N.size + 1 + (decB n).size + 1 + (decB m).size := by omega
  have HN : Hid (1 ≤ n ∧ n ≤ 1000) := ⟨h1, h2⟩
  have HM : Hid (-1 ≤ m ∧ m ≤ 1000) := ⟨h3, h4⟩
  clear h1 h2 s0 s1 h3 h4 s2
  have HP : Hid (Pow w) := hp
  clear hp hw
  have d0 : (w.alloc (.cells #[.int .i64 9, .int .i64 n, .int .i64 m] 58)).cell? ⟨0, 9, none⟩ = some (.string N) := (World.cell?_alloc_lt _ _ _ hg0).trans c0
  have b0 : (w.alloc (.cells #[.int .i64 9, .int .i64 n, .int .i64 m] 58)).cell? ⟨w.heap.size, 0, none⟩ = some (.int .i64 9) := by simp
  have b1 : (w.alloc (.cells #[.int .i64 9, .int .i64 n, .int .i64 m] 58)).cell? ⟨w.heap.size, 1, none⟩ = some (.int .i64 n) := by simp
  have b2 : (w.alloc (.cells #[.int .i64 9, .int .i64 n, .int .i64 m] 58)).cell? ⟨w.heap.size, 2, none⟩ = some (.int .i64 m) := by simp
  have HWA : Below w.heap.size w (w.alloc (.cells #[.int .i64 9, .int .i64 n, .int .i64 m] 58)) := (Below.refl _ w).alloc (Nat.le_refl _) _
  clear c0
  go_enter Tryz.func16, Tryz.ntmps16
  go_wp2_with fail
  generalize (w.alloc (.cells #[.int .i64 9, .int .i64 n, .int .i64 m] 58)) = WA at *
  have HPk : Hid (∀ X, Below w.heap.size w X → Pow X) := fun X hX => HP.out.below hX (Nat.le_refl _)
  go_region_held3 (fun w' => w'.cell? ⟨0, 9, none⟩ = some (.string N) ∧ w'.cell? ⟨w.heap.size, 0, none⟩ = some (.int .i64 9) ∧ w'.cell? ⟨w.heap.size, 1, none⟩ = some (.int .i64 n) ∧ w'.cell? ⟨w.heap.size, 2, none⟩ = some (.int .i64 m) ∧ Below w.heap.size w w') (first | exact ⟨d0, b0, b1, b2, HWA.drew⟩ | (have hH := ‹_ ∧ _ ∧ _ ∧ _ ∧ Below w.heap.size w _›; exact ⟨(hb1.cell (p := ⟨0, 9, none⟩) (block_lt_of_cell hH.1)).trans hH.1, (hb1.cell (p := ⟨w.heap.size, 0, none⟩) (block_lt_of_cell hH.2.1)).trans hH.2.1, (hb1.cell (p := ⟨w.heap.size, 1, none⟩) (block_lt_of_cell hH.2.2.1)).trans hH.2.2.1, (hb1.cell (p := ⟨w.heap.size, 2, none⟩) (block_lt_of_cell hH.2.2.2.1)).trans hH.2.2.2.1, hH.2.2.2.2.trans (hb1.mono hH.2.2.2.2.size)⟩) | exact ⟨(hb1.cell (p := ⟨0, 9, none⟩) (block_lt_of_cell d0)).trans d0, (hb1.cell (p := ⟨w.heap.size, 0, none⟩) (block_lt_of_cell b0)).trans b0, (hb1.cell (p := ⟨w.heap.size, 1, none⟩) (block_lt_of_cell b1)).trans b1, (hb1.cell (p := ⟨w.heap.size, 2, none⟩) (block_lt_of_cell b2)).trans b2, HWA.drew.trans (hb1.mono HWA.size)⟩) (first | (go_at_call 28; refine (decimal_any _ (by first | (have := HN.out; omega) | (have := HM.out; omega)) (by first | (have := HN.out; omega) | (have := HM.out; omega)) _ (by first | exact HPk.out _ HWA | exact HPk.out _ (‹_ ∧ _ ∧ _ ∧ _ ∧ Below w.heap.size w _›).2.2.2.2)).mono ?_; rintro e w1 ⟨rfl, hb1⟩))
  rename_i hHeld
  have HB : Hid (Below w.heap.size w w1) := hHeld.2.2.2.2
  go_wp2
  go_ret
  exact ⟨by rw [HT.out]; rfl, HB.out⟩

set_option maxHeartbeats 4000000 in
theorem formText_10 (n m : Int) (s : ByteArray) (w : World) (hp : Pow w) (hw : NamesAt w 0) (h1 : 1 ≤ n) (h2 : n ≤ 1000) (hs : s.size ≤ 20) :
    Calls Tryz.prog 16 #[.iface 62 (.agg #[.int .i64 10, .int .i64 n, .string s])] w fun e w' => e = .returned (.string (opText 10 n m s)) ∧ Below w.heap.size w w' := by
  have h_bare := as_text_bare (.agg #[.int .i64 10, .int .i64 n, .string s])
  have h_number := as_text_number (.agg #[.int .i64 10, .int .i64 n, .string s])
  have h_wait := as_text_wait (.agg #[.int .i64 10, .int .i64 n, .string s])
  have h_send := as_text_send (.agg #[.int .i64 10, .int .i64 n, .string s])
  have h_text := as_text_text (.agg #[.int .i64 10, .int .i64 n, .string s])
  have HT : Hid (opText 10 n m s = nameB 10 ++ ⟨#[32]⟩ ++ decB n ++ ⟨#[32]⟩ ++ s) := rfl
  have s0 := nameB_size 10
  have hg0 := hw.1
  have c0 : w.cell? ⟨0, 10, none⟩ = some (.string (nameB 10)) := hw.one 10 (by omega)
  generalize nameB 10 = N at *
  have s1 := decB_size (n := n) (by omega) (by omega)
  have q0 : ¬ 9223372036854775807 < N.size + 1 := by omega
  have q1 : ¬ 9223372036854775807 < N.size + 1 + (decB n).size := by omega
  have q2 : ¬ 9223372036854775807 < N.size + 1 + (decB n).size + 1 := by omega
  have q3 : ¬ 9223372036854775807 < N.size + 1 + (decB n).size + 1 + s.size := by omega
  have HN : Hid (1 ≤ n ∧ n ≤ 1000) := ⟨h1, h2⟩
  clear h1 h2 s0 s1 hs
  have HP : Hid (Pow w) := hp
  clear hp hw
  have d0 : (w.alloc (.cells #[.int .i64 10, .int .i64 n, .string s] 62)).cell? ⟨0, 10, none⟩ = some (.string N) := (World.cell?_alloc_lt _ _ _ hg0).trans c0
  have b0 : (w.alloc (.cells #[.int .i64 10, .int .i64 n, .string s] 62)).cell? ⟨w.heap.size, 0, none⟩ = some (.int .i64 10) := by simp
  have b1 : (w.alloc (.cells #[.int .i64 10, .int .i64 n, .string s] 62)).cell? ⟨w.heap.size, 1, none⟩ = some (.int .i64 n) := by simp
  have b2 : (w.alloc (.cells #[.int .i64 10, .int .i64 n, .string s] 62)).cell? ⟨w.heap.size, 2, none⟩ = some (.string s) := by simp
  have HWA : Below w.heap.size w (w.alloc (.cells #[.int .i64 10, .int .i64 n, .string s] 62)) := (Below.refl _ w).alloc (Nat.le_refl _) _
  clear c0
  go_enter Tryz.func16, Tryz.ntmps16
  go_wp2_with fail
  generalize (w.alloc (.cells #[.int .i64 10, .int .i64 n, .string s] 62)) = WA at *
  have HPk : Hid (∀ X, Below w.heap.size w X → Pow X) := fun X hX => HP.out.below hX (Nat.le_refl _)
  go_region_held3 (fun w' => w'.cell? ⟨0, 10, none⟩ = some (.string N) ∧ w'.cell? ⟨w.heap.size, 0, none⟩ = some (.int .i64 10) ∧ w'.cell? ⟨w.heap.size, 1, none⟩ = some (.int .i64 n) ∧ w'.cell? ⟨w.heap.size, 2, none⟩ = some (.string s) ∧ Below w.heap.size w w') (first | exact ⟨d0, b0, b1, b2, HWA.drew⟩ | (have hH := ‹_ ∧ _ ∧ _ ∧ _ ∧ Below w.heap.size w _›; exact ⟨(hb1.cell (p := ⟨0, 10, none⟩) (block_lt_of_cell hH.1)).trans hH.1, (hb1.cell (p := ⟨w.heap.size, 0, none⟩) (block_lt_of_cell hH.2.1)).trans hH.2.1, (hb1.cell (p := ⟨w.heap.size, 1, none⟩) (block_lt_of_cell hH.2.2.1)).trans hH.2.2.1, (hb1.cell (p := ⟨w.heap.size, 2, none⟩) (block_lt_of_cell hH.2.2.2.1)).trans hH.2.2.2.1, hH.2.2.2.2.trans (hb1.mono hH.2.2.2.2.size)⟩) | exact ⟨(hb1.cell (p := ⟨0, 10, none⟩) (block_lt_of_cell d0)).trans d0, (hb1.cell (p := ⟨w.heap.size, 0, none⟩) (block_lt_of_cell b0)).trans b0, (hb1.cell (p := ⟨w.heap.size, 1, none⟩) (block_lt_of_cell b1)).trans b1, (hb1.cell (p := ⟨w.heap.size, 2, none⟩) (block_lt_of_cell b2)).trans b2, HWA.drew.trans (hb1.mono HWA.size)⟩) (first | (go_at_call 28; refine (decimal_any _ (by have := HN.out; omega) (by have := HN.out; omega) _ (by first | exact HPk.out _ HWA | exact HPk.out _ (‹_ ∧ _ ∧ _ ∧ _ ∧ Below w.heap.size w _›).2.2.2.2)).mono ?_; rintro e w1 ⟨rfl, hb1⟩))
  rename_i hHeld
  have HB : Hid (Below w.heap.size w w1) := hHeld.2.2.2.2
  go_wp2
  go_ret
  exact ⟨by rw [HT.out]; rfl, HB.out⟩

set_option maxHeartbeats 4000000 in
theorem formText_11 (n m : Int) (s : ByteArray) (w : World) (hp : Pow w) (hw : NamesAt w 0) (h1 : 1 ≤ n) (h2 : n ≤ 1000) :
    Calls Tryz.prog 16 #[.iface 56 (.agg #[.int .i64 11, .int .i64 n])] w fun e w' => e = .returned (.string (opText 11 n m s)) ∧ Below w.heap.size w w' := by
  have h_bare := as_number_bare (.agg #[.int .i64 11, .int .i64 n])
  have h_number := as_number_number (.agg #[.int .i64 11, .int .i64 n])
  have HT : Hid (opText 11 n m s = nameB 11 ++ ⟨#[32]⟩ ++ decB n) := rfl
  have s0 := nameB_size 11
  have hg0 := hw.1
  have c0 : w.cell? ⟨0, 11, none⟩ = some (.string (nameB 11)) := hw.one 11 (by omega)
  generalize nameB 11 = N at *
  have s1 := decB_size (n := n) (by omega) (by omega)
  have q0 : ¬ 9223372036854775807 < N.size + 1 := by omega
  have q1 : ¬ 9223372036854775807 < N.size + 1 + (decB n).size := by omega
  have HN : Hid (1 ≤ n ∧ n ≤ 1000) := ⟨h1, h2⟩
  clear h1 h2 s0 s1
  have HP : Hid (Pow w) := hp
  clear hp hw
  have d0 : (w.alloc (.cells #[.int .i64 11, .int .i64 n] 56)).cell? ⟨0, 11, none⟩ = some (.string N) := (World.cell?_alloc_lt _ _ _ hg0).trans c0
  have b0 : (w.alloc (.cells #[.int .i64 11, .int .i64 n] 56)).cell? ⟨w.heap.size, 0, none⟩ = some (.int .i64 11) := by simp
  have b1 : (w.alloc (.cells #[.int .i64 11, .int .i64 n] 56)).cell? ⟨w.heap.size, 1, none⟩ = some (.int .i64 n) := by simp
  have HWA : Below w.heap.size w (w.alloc (.cells #[.int .i64 11, .int .i64 n] 56)) := (Below.refl _ w).alloc (Nat.le_refl _) _
  clear c0
  go_enter Tryz.func16, Tryz.ntmps16
  go_wp2_with fail
  generalize (w.alloc (.cells #[.int .i64 11, .int .i64 n] 56)) = WA at *
  have HPk : Hid (∀ X, Below w.heap.size w X → Pow X) := fun X hX => HP.out.below hX (Nat.le_refl _)
  go_region_held3 (fun w' => w'.cell? ⟨0, 11, none⟩ = some (.string N) ∧ w'.cell? ⟨w.heap.size, 0, none⟩ = some (.int .i64 11) ∧ w'.cell? ⟨w.heap.size, 1, none⟩ = some (.int .i64 n) ∧ Below w.heap.size w w') (first | exact ⟨d0, b0, b1, HWA.drew⟩ | (have hH := ‹_ ∧ _ ∧ _ ∧ Below w.heap.size w _›; exact ⟨(hb1.cell (p := ⟨0, 11, none⟩) (block_lt_of_cell hH.1)).trans hH.1, (hb1.cell (p := ⟨w.heap.size, 0, none⟩) (block_lt_of_cell hH.2.1)).trans hH.2.1, (hb1.cell (p := ⟨w.heap.size, 1, none⟩) (block_lt_of_cell hH.2.2.1)).trans hH.2.2.1, hH.2.2.2.trans (hb1.mono hH.2.2.2.size)⟩) | exact ⟨(hb1.cell (p := ⟨0, 11, none⟩) (block_lt_of_cell d0)).trans d0, (hb1.cell (p := ⟨w.heap.size, 0, none⟩) (block_lt_of_cell b0)).trans b0, (hb1.cell (p := ⟨w.heap.size, 1, none⟩) (block_lt_of_cell b1)).trans b1, HWA.drew.trans (hb1.mono HWA.size)⟩) (first | (go_at_call 28; refine (decimal_any _ (by have := HN.out; omega) (by have := HN.out; omega) _ (by first | exact HPk.out _ HWA | exact HPk.out _ (‹_ ∧ _ ∧ _ ∧ Below w.heap.size w _›).2.2.2)).mono ?_; rintro e w1 ⟨rfl, hb1⟩))
  rename_i hHeld
  have HB : Hid (Below w.heap.size w w1) := hHeld.2.2.2
  go_wp2
  go_ret
  exact ⟨by rw [HT.out]; rfl, HB.out⟩

set_option maxHeartbeats 4000000 in
theorem formText_12 (n m : Int) (s : ByteArray) (w : World) (hp : Pow w) (hw : NamesAt w 0) (h1 : 1 ≤ n) (h2 : n ≤ 1000) (h3 : -1 ≤ m) (h4 : m ≤ 1000) :
    Calls Tryz.prog 16 #[.iface 58 (.agg #[.int .i64 12, .int .i64 n, .int .i64 m])] w fun e w' => e = .returned (.string (opText 12 n m s)) ∧ Below w.heap.size w w' := by
  have h_bare := as_wait_bare (.agg #[.int .i64 12, .int .i64 n, .int .i64 m])
  have h_number := as_wait_number (.agg #[.int .i64 12, .int .i64 n, .int .i64 m])
  have h_wait := as_wait_wait (.agg #[.int .i64 12, .int .i64 n, .int .i64 m])
  have HT : Hid (opText 12 n m s = nameB 12 ++ ⟨#[32]⟩ ++ decB n ++ ⟨#[32]⟩ ++ decB m) := rfl
  have s0 := nameB_size 12
  have hg0 := hw.1
  have c0 : w.cell? ⟨0, 12, none⟩ = some (.string (nameB 12)) := hw.one 12 (by omega)
  generalize nameB 12 = N at *
  have s1 := decB_size (n := n) (by omega) (by omega)
  have s2 := decB_size (n := m) (by omega) (by omega)
  have q0 : ¬ 9223372036854775807 < N.size + 1 := by omega
  have q1 : ¬ 9223372036854775807 < N.size + 1 + (decB n).size := by omega
  have q2 : ¬ 9223372036854775807 < N.size + 1 + (decB n).size + 1 := by omega
  have q3 : ¬ 9223372036854775807 < N.size + 1 + (decB n).size + 1 + (decB m).size := by omega
  have HN : Hid (1 ≤ n ∧ n ≤ 1000) := ⟨h1, h2⟩
  have HM : Hid (-1 ≤ m ∧ m ≤ 1000) := ⟨h3, h4⟩
  clear h1 h2 s0 s1 h3 h4 s2
  have HP : Hid (Pow w) := hp
  clear hp hw
  have d0 : (w.alloc (.cells #[.int .i64 12, .int .i64 n, .int .i64 m] 58)).cell? ⟨0, 12, none⟩ = some (.string N) := (World.cell?_alloc_lt _ _ _ hg0).trans c0
  have b0 : (w.alloc (.cells #[.int .i64 12, .int .i64 n, .int .i64 m] 58)).cell? ⟨w.heap.size, 0, none⟩ = some (.int .i64 12) := by simp
  have b1 : (w.alloc (.cells #[.int .i64 12, .int .i64 n, .int .i64 m] 58)).cell? ⟨w.heap.size, 1, none⟩ = some (.int .i64 n) := by simp
  have b2 : (w.alloc (.cells #[.int .i64 12, .int .i64 n, .int .i64 m] 58)).cell? ⟨w.heap.size, 2, none⟩ = some (.int .i64 m) := by simp
  have HWA : Below w.heap.size w (w.alloc (.cells #[.int .i64 12, .int .i64 n, .int .i64 m] 58)) := (Below.refl _ w).alloc (Nat.le_refl _) _
  clear c0
  go_enter Tryz.func16, Tryz.ntmps16
  go_wp2_with fail
  generalize (w.alloc (.cells #[.int .i64 12, .int .i64 n, .int .i64 m] 58)) = WA at *
  have HPk : Hid (∀ X, Below w.heap.size w X → Pow X) := fun X hX => HP.out.below hX (Nat.le_refl _)
  go_region_held3 (fun w' => w'.cell? ⟨0, 12, none⟩ = some (.string N) ∧ w'.cell? ⟨w.heap.size, 0, none⟩ = some (.int .i64 12) ∧ w'.cell? ⟨w.heap.size, 1, none⟩ = some (.int .i64 n) ∧ w'.cell? ⟨w.heap.size, 2, none⟩ = some (.int .i64 m) ∧ Below w.heap.size w w') (first | exact ⟨d0, b0, b1, b2, HWA.drew⟩ | (have hH := ‹_ ∧ _ ∧ _ ∧ _ ∧ Below w.heap.size w _›; exact ⟨(hb1.cell (p := ⟨0, 12, none⟩) (block_lt_of_cell hH.1)).trans hH.1, (hb1.cell (p := ⟨w.heap.size, 0, none⟩) (block_lt_of_cell hH.2.1)).trans hH.2.1, (hb1.cell (p := ⟨w.heap.size, 1, none⟩) (block_lt_of_cell hH.2.2.1)).trans hH.2.2.1, (hb1.cell (p := ⟨w.heap.size, 2, none⟩) (block_lt_of_cell hH.2.2.2.1)).trans hH.2.2.2.1, hH.2.2.2.2.trans (hb1.mono hH.2.2.2.2.size)⟩) | exact ⟨(hb1.cell (p := ⟨0, 12, none⟩) (block_lt_of_cell d0)).trans d0, (hb1.cell (p := ⟨w.heap.size, 0, none⟩) (block_lt_of_cell b0)).trans b0, (hb1.cell (p := ⟨w.heap.size, 1, none⟩) (block_lt_of_cell b1)).trans b1, (hb1.cell (p := ⟨w.heap.size, 2, none⟩) (block_lt_of_cell b2)).trans b2, HWA.drew.trans (hb1.mono HWA.size)⟩) (first | (go_at_call 28; refine (decimal_any _ (by first | (have := HN.out; omega) | (have := HM.out; omega)) (by first | (have := HN.out; omega) | (have := HM.out; omega)) _ (by first | exact HPk.out _ HWA | exact HPk.out _ (‹_ ∧ _ ∧ _ ∧ _ ∧ Below w.heap.size w _›).2.2.2.2)).mono ?_; rintro e w1 ⟨rfl, hb1⟩))
  rename_i hHeld
  have HB : Hid (Below w.heap.size w w1) := hHeld.2.2.2.2
  go_wp2
  go_ret
  exact ⟨by rw [HT.out]; rfl, HB.out⟩

set_option maxHeartbeats 4000000 in
theorem formText_13 (n m : Int) (s : ByteArray) (w : World) (hp : Pow w) (hw : NamesAt w 0) (h1 : 1 ≤ n) (h2 : n ≤ 1000) (hs : s.size ≤ 20) :
    Calls Tryz.prog 16 #[.iface 62 (.agg #[.int .i64 13, .int .i64 n, .string s])] w fun e w' => e = .returned (.string (opText 13 n m s)) ∧ Below w.heap.size w w' := by
  have h_bare := as_text_bare (.agg #[.int .i64 13, .int .i64 n, .string s])
  have h_number := as_text_number (.agg #[.int .i64 13, .int .i64 n, .string s])
  have h_wait := as_text_wait (.agg #[.int .i64 13, .int .i64 n, .string s])
  have h_send := as_text_send (.agg #[.int .i64 13, .int .i64 n, .string s])
  have h_text := as_text_text (.agg #[.int .i64 13, .int .i64 n, .string s])
  have HT : Hid (opText 13 n m s = nameB 13 ++ ⟨#[32]⟩ ++ decB n ++ ⟨#[32]⟩ ++ s) := rfl
  have s0 := nameB_size 13
  have hg0 := hw.1
  have c0 : w.cell? ⟨0, 13, none⟩ = some (.string (nameB 13)) := hw.one 13 (by omega)
  generalize nameB 13 = N at *
  have s1 := decB_size (n := n) (by omega) (by omega)
  have q0 : ¬ 9223372036854775807 < N.size + 1 := by omega
  have q1 : ¬ 9223372036854775807 < N.size + 1 + (decB n).size := by omega
  have q2 : ¬ 9223372036854775807 < N.size + 1 + (decB n).size + 1 := by omega
  have q3 : ¬ 9223372036854775807 < N.size + 1 + (decB n).size + 1 + s.size := by omega
  have HN : Hid (1 ≤ n ∧ n ≤ 1000) := ⟨h1, h2⟩
  clear h1 h2 s0 s1 hs
  have HP : Hid (Pow w) := hp
  clear hp hw
  have d0 : (w.alloc (.cells #[.int .i64 13, .int .i64 n, .string s] 62)).cell? ⟨0, 13, none⟩ = some (.string N) := (World.cell?_alloc_lt _ _ _ hg0).trans c0
  have b0 : (w.alloc (.cells #[.int .i64 13, .int .i64 n, .string s] 62)).cell? ⟨w.heap.size, 0, none⟩ = some (.int .i64 13) := by simp
  have b1 : (w.alloc (.cells #[.int .i64 13, .int .i64 n, .string s] 62)).cell? ⟨w.heap.size, 1, none⟩ = some (.int .i64 n) := by simp
  have b2 : (w.alloc (.cells #[.int .i64 13, .int .i64 n, .string s] 62)).cell? ⟨w.heap.size, 2, none⟩ = some (.string s) := by simp
  have HWA : Below w.heap.size w (w.alloc (.cells #[.int .i64 13, .int .i64 n, .string s] 62)) := (Below.refl _ w).alloc (Nat.le_refl _) _
  clear c0
  go_enter Tryz.func16, Tryz.ntmps16
  go_wp2_with fail
  generalize (w.alloc (.cells #[.int .i64 13, .int .i64 n, .string s] 62)) = WA at *
  have HPk : Hid (∀ X, Below w.heap.size w X → Pow X) := fun X hX => HP.out.below hX (Nat.le_refl _)
  go_region_held3 (fun w' => w'.cell? ⟨0, 13, none⟩ = some (.string N) ∧ w'.cell? ⟨w.heap.size, 0, none⟩ = some (.int .i64 13) ∧ w'.cell? ⟨w.heap.size, 1, none⟩ = some (.int .i64 n) ∧ w'.cell? ⟨w.heap.size, 2, none⟩ = some (.string s) ∧ Below w.heap.size w w') (first | exact ⟨d0, b0, b1, b2, HWA.drew⟩ | (have hH := ‹_ ∧ _ ∧ _ ∧ _ ∧ Below w.heap.size w _›; exact ⟨(hb1.cell (p := ⟨0, 13, none⟩) (block_lt_of_cell hH.1)).trans hH.1, (hb1.cell (p := ⟨w.heap.size, 0, none⟩) (block_lt_of_cell hH.2.1)).trans hH.2.1, (hb1.cell (p := ⟨w.heap.size, 1, none⟩) (block_lt_of_cell hH.2.2.1)).trans hH.2.2.1, (hb1.cell (p := ⟨w.heap.size, 2, none⟩) (block_lt_of_cell hH.2.2.2.1)).trans hH.2.2.2.1, hH.2.2.2.2.trans (hb1.mono hH.2.2.2.2.size)⟩) | exact ⟨(hb1.cell (p := ⟨0, 13, none⟩) (block_lt_of_cell d0)).trans d0, (hb1.cell (p := ⟨w.heap.size, 0, none⟩) (block_lt_of_cell b0)).trans b0, (hb1.cell (p := ⟨w.heap.size, 1, none⟩) (block_lt_of_cell b1)).trans b1, (hb1.cell (p := ⟨w.heap.size, 2, none⟩) (block_lt_of_cell b2)).trans b2, HWA.drew.trans (hb1.mono HWA.size)⟩) (first | (go_at_call 28; refine (decimal_any _ (by have := HN.out; omega) (by have := HN.out; omega) _ (by first | exact HPk.out _ HWA | exact HPk.out _ (‹_ ∧ _ ∧ _ ∧ _ ∧ Below w.heap.size w _›).2.2.2.2)).mono ?_; rintro e w1 ⟨rfl, hb1⟩))
  rename_i hHeld
  have HB : Hid (Below w.heap.size w w1) := hHeld.2.2.2.2
  go_wp2
  go_ret
  exact ⟨by rw [HT.out]; rfl, HB.out⟩

set_option maxHeartbeats 4000000 in
theorem formText_14 (n m : Int) (s : ByteArray) (w : World) (hp : Pow w) (hw : NamesAt w 0) (h1 : 1 ≤ n) (h2 : n ≤ 1000) :
    Calls Tryz.prog 16 #[.iface 56 (.agg #[.int .i64 14, .int .i64 n])] w fun e w' => e = .returned (.string (opText 14 n m s)) ∧ Below w.heap.size w w' := by
  have h_bare := as_number_bare (.agg #[.int .i64 14, .int .i64 n])
  have h_number := as_number_number (.agg #[.int .i64 14, .int .i64 n])
  have HT : Hid (opText 14 n m s = nameB 14 ++ ⟨#[32]⟩ ++ decB n) := rfl
  have s0 := nameB_size 14
  have hg0 := hw.1
  have c0 : w.cell? ⟨0, 14, none⟩ = some (.string (nameB 14)) := hw.one 14 (by omega)
  generalize nameB 14 = N at *
  have s1 := decB_size (n := n) (by omega) (by omega)
  have q0 : ¬ 9223372036854775807 < N.size + 1 := by omega
  have q1 : ¬ 9223372036854775807 < N.size + 1 + (decB n).size := by omega
  have HN : Hid (1 ≤ n ∧ n ≤ 1000) := ⟨h1, h2⟩
  clear h1 h2 s0 s1
  have HP : Hid (Pow w) := hp
  clear hp hw
  have d0 : (w.alloc (.cells #[.int .i64 14, .int .i64 n] 56)).cell? ⟨0, 14, none⟩ = some (.string N) := (World.cell?_alloc_lt _ _ _ hg0).trans c0
  have b0 : (w.alloc (.cells #[.int .i64 14, .int .i64 n] 56)).cell? ⟨w.heap.size, 0, none⟩ = some (.int .i64 14) := by simp
  have b1 : (w.alloc (.cells #[.int .i64 14, .int .i64 n] 56)).cell? ⟨w.heap.size, 1, none⟩ = some (.int .i64 n) := by simp
  have HWA : Below w.heap.size w (w.alloc (.cells #[.int .i64 14, .int .i64 n] 56)) := (Below.refl _ w).alloc (Nat.le_refl _) _
  clear c0
  go_enter Tryz.func16, Tryz.ntmps16
  go_wp2_with fail
  generalize (w.alloc (.cells #[.int .i64 14, .int .i64 n] 56)) = WA at *
  have HPk : Hid (∀ X, Below w.heap.size w X → Pow X) := fun X hX => HP.out.below hX (Nat.le_refl _)
  go_region_held3 (fun w' => w'.cell? ⟨0, 14, none⟩ = some (.string N) ∧ w'.cell? ⟨w.heap.size, 0, none⟩ = some (.int .i64 14) ∧ w'.cell? ⟨w.heap.size, 1, none⟩ = some (.int .i64 n) ∧ Below w.heap.size w w') (first | exact ⟨d0, b0, b1, HWA.drew⟩ | (have hH := ‹_ ∧ _ ∧ _ ∧ Below w.heap.size w _›; exact ⟨(hb1.cell (p := ⟨0, 14, none⟩) (block_lt_of_cell hH.1)).trans hH.1, (hb1.cell (p := ⟨w.heap.size, 0, none⟩) (block_lt_of_cell hH.2.1)).trans hH.2.1, (hb1.cell (p := ⟨w.heap.size, 1, none⟩) (block_lt_of_cell hH.2.2.1)).trans hH.2.2.1, hH.2.2.2.trans (hb1.mono hH.2.2.2.size)⟩) | exact ⟨(hb1.cell (p := ⟨0, 14, none⟩) (block_lt_of_cell d0)).trans d0, (hb1.cell (p := ⟨w.heap.size, 0, none⟩) (block_lt_of_cell b0)).trans b0, (hb1.cell (p := ⟨w.heap.size, 1, none⟩) (block_lt_of_cell b1)).trans b1, HWA.drew.trans (hb1.mono HWA.size)⟩) (first | (go_at_call 28; refine (decimal_any _ (by have := HN.out; omega) (by have := HN.out; omega) _ (by first | exact HPk.out _ HWA | exact HPk.out _ (‹_ ∧ _ ∧ _ ∧ Below w.heap.size w _›).2.2.2)).mono ?_; rintro e w1 ⟨rfl, hb1⟩))
  rename_i hHeld
  have HB : Hid (Below w.heap.size w w1) := hHeld.2.2.2
  go_wp2
  go_ret
  exact ⟨by rw [HT.out]; rfl, HB.out⟩

set_option maxHeartbeats 4000000 in
theorem formText_15 (n m : Int) (s : ByteArray) (w : World) (hp : Pow w) (hw : NamesAt w 0) (h1 : 1 ≤ n) (h2 : n ≤ 1000) :
    Calls Tryz.prog 16 #[.iface 56 (.agg #[.int .i64 15, .int .i64 n])] w fun e w' => e = .returned (.string (opText 15 n m s)) ∧ Below w.heap.size w w' := by
  have h_bare := as_number_bare (.agg #[.int .i64 15, .int .i64 n])
  have h_number := as_number_number (.agg #[.int .i64 15, .int .i64 n])
  have HT : Hid (opText 15 n m s = nameB 15 ++ ⟨#[32]⟩ ++ decB n) := rfl
  have s0 := nameB_size 15
  have hg0 := hw.1
  have c0 : w.cell? ⟨0, 15, none⟩ = some (.string (nameB 15)) := hw.one 15 (by omega)
  generalize nameB 15 = N at *
  have s1 := decB_size (n := n) (by omega) (by omega)
  have q0 : ¬ 9223372036854775807 < N.size + 1 := by omega
  have q1 : ¬ 9223372036854775807 < N.size + 1 + (decB n).size := by omega
  have HN : Hid (1 ≤ n ∧ n ≤ 1000) := ⟨h1, h2⟩
  clear h1 h2 s0 s1
  have HP : Hid (Pow w) := hp
  clear hp hw
  have d0 : (w.alloc (.cells #[.int .i64 15, .int .i64 n] 56)).cell? ⟨0, 15, none⟩ = some (.string N) := (World.cell?_alloc_lt _ _ _ hg0).trans c0
  have b0 : (w.alloc (.cells #[.int .i64 15, .int .i64 n] 56)).cell? ⟨w.heap.size, 0, none⟩ = some (.int .i64 15) := by simp
  have b1 : (w.alloc (.cells #[.int .i64 15, .int .i64 n] 56)).cell? ⟨w.heap.size, 1, none⟩ = some (.int .i64 n) := by simp
  have HWA : Below w.heap.size w (w.alloc (.cells #[.int .i64 15, .int .i64 n] 56)) := (Below.refl _ w).alloc (Nat.le_refl _) _
  clear c0
  go_enter Tryz.func16, Tryz.ntmps16
  go_wp2_with fail
  generalize (w.alloc (.cells #[.int .i64 15, .int .i64 n] 56)) = WA at *
  have HPk : Hid (∀ X, Below w.heap.size w X → Pow X) := fun X hX => HP.out.below hX (Nat.le_refl _)
  go_region_held3 (fun w' => w'.cell? ⟨0, 15, none⟩ = some (.string N) ∧ w'.cell? ⟨w.heap.size, 0, none⟩ = some (.int .i64 15) ∧ w'.cell? ⟨w.heap.size, 1, none⟩ = some (.int .i64 n) ∧ Below w.heap.size w w') (first | exact ⟨d0, b0, b1, HWA.drew⟩ | (have hH := ‹_ ∧ _ ∧ _ ∧ Below w.heap.size w _›; exact ⟨(hb1.cell (p := ⟨0, 15, none⟩) (block_lt_of_cell hH.1)).trans hH.1, (hb1.cell (p := ⟨w.heap.size, 0, none⟩) (block_lt_of_cell hH.2.1)).trans hH.2.1, (hb1.cell (p := ⟨w.heap.size, 1, none⟩) (block_lt_of_cell hH.2.2.1)).trans hH.2.2.1, hH.2.2.2.trans (hb1.mono hH.2.2.2.size)⟩) | exact ⟨(hb1.cell (p := ⟨0, 15, none⟩) (block_lt_of_cell d0)).trans d0, (hb1.cell (p := ⟨w.heap.size, 0, none⟩) (block_lt_of_cell b0)).trans b0, (hb1.cell (p := ⟨w.heap.size, 1, none⟩) (block_lt_of_cell b1)).trans b1, HWA.drew.trans (hb1.mono HWA.size)⟩) (first | (go_at_call 28; refine (decimal_any _ (by have := HN.out; omega) (by have := HN.out; omega) _ (by first | exact HPk.out _ HWA | exact HPk.out _ (‹_ ∧ _ ∧ _ ∧ Below w.heap.size w _›).2.2.2)).mono ?_; rintro e w1 ⟨rfl, hb1⟩))
  rename_i hHeld
  have HB : Hid (Below w.heap.size w w1) := hHeld.2.2.2
  go_wp2
  go_ret
  exact ⟨by rw [HT.out]; rfl, HB.out⟩

set_option maxHeartbeats 4000000 in
theorem formText_16 (n m : Int) (s : ByteArray) (w : World) (hp : Pow w) (hw : NamesAt w 0) (h1 : 1 ≤ n) (h2 : n ≤ 1000) :
    Calls Tryz.prog 16 #[.iface 56 (.agg #[.int .i64 16, .int .i64 n])] w fun e w' => e = .returned (.string (opText 16 n m s)) ∧ Below w.heap.size w w' := by
  have h_bare := as_number_bare (.agg #[.int .i64 16, .int .i64 n])
  have h_number := as_number_number (.agg #[.int .i64 16, .int .i64 n])
  have HT : Hid (opText 16 n m s = nameB 16 ++ ⟨#[32]⟩ ++ decB n) := rfl
  have s0 := nameB_size 16
  have hg0 := hw.1
  have c0 : w.cell? ⟨0, 16, none⟩ = some (.string (nameB 16)) := hw.one 16 (by omega)
  generalize nameB 16 = N at *
  have s1 := decB_size (n := n) (by omega) (by omega)
  have q0 : ¬ 9223372036854775807 < N.size + 1 := by omega
  have q1 : ¬ 9223372036854775807 < N.size + 1 + (decB n).size := by omega
  have HN : Hid (1 ≤ n ∧ n ≤ 1000) := ⟨h1, h2⟩
  clear h1 h2 s0 s1
  have HP : Hid (Pow w) := hp
  clear hp hw
  have d0 : (w.alloc (.cells #[.int .i64 16, .int .i64 n] 56)).cell? ⟨0, 16, none⟩ = some (.string N) := (World.cell?_alloc_lt _ _ _ hg0).trans c0
  have b0 : (w.alloc (.cells #[.int .i64 16, .int .i64 n] 56)).cell? ⟨w.heap.size, 0, none⟩ = some (.int .i64 16) := by simp
  have b1 : (w.alloc (.cells #[.int .i64 16, .int .i64 n] 56)).cell? ⟨w.heap.size, 1, none⟩ = some (.int .i64 n) := by simp
  have HWA : Below w.heap.size w (w.alloc (.cells #[.int .i64 16, .int .i64 n] 56)) := (Below.refl _ w).alloc (Nat.le_refl _) _
  clear c0
  go_enter Tryz.func16, Tryz.ntmps16
  go_wp2_with fail
  generalize (w.alloc (.cells #[.int .i64 16, .int .i64 n] 56)) = WA at *
  have HPk : Hid (∀ X, Below w.heap.size w X → Pow X) := fun X hX => HP.out.below hX (Nat.le_refl _)
  go_region_held3 (fun w' => w'.cell? ⟨0, 16, none⟩ = some (.string N) ∧ w'.cell? ⟨w.heap.size, 0, none⟩ = some (.int .i64 16) ∧ w'.cell? ⟨w.heap.size, 1, none⟩ = some (.int .i64 n) ∧ Below w.heap.size w w') (first | exact ⟨d0, b0, b1, HWA.drew⟩ | (have hH := ‹_ ∧ _ ∧ _ ∧ Below w.heap.size w _›; exact ⟨(hb1.cell (p := ⟨0, 16, none⟩) (block_lt_of_cell hH.1)).trans hH.1, (hb1.cell (p := ⟨w.heap.size, 0, none⟩) (block_lt_of_cell hH.2.1)).trans hH.2.1, (hb1.cell (p := ⟨w.heap.size, 1, none⟩) (block_lt_of_cell hH.2.2.1)).trans hH.2.2.1, hH.2.2.2.trans (hb1.mono hH.2.2.2.size)⟩) | exact ⟨(hb1.cell (p := ⟨0, 16, none⟩) (block_lt_of_cell d0)).trans d0, (hb1.cell (p := ⟨w.heap.size, 0, none⟩) (block_lt_of_cell b0)).trans b0, (hb1.cell (p := ⟨w.heap.size, 1, none⟩) (block_lt_of_cell b1)).trans b1, HWA.drew.trans (hb1.mono HWA.size)⟩) (first | (go_at_call 28; refine (decimal_any _ (by have := HN.out; omega) (by have := HN.out; omega) _ (by first | exact HPk.out _ HWA | exact HPk.out _ (‹_ ∧ _ ∧ _ ∧ Below w.heap.size w _›).2.2.2)).mono ?_; rintro e w1 ⟨rfl, hb1⟩))
  rename_i hHeld
  have HB : Hid (Below w.heap.size w w1) := hHeld.2.2.2
  go_wp2
  go_ret
  exact ⟨by rw [HT.out]; rfl, HB.out⟩

set_option maxHeartbeats 4000000 in
theorem formText_17 (n m : Int) (s : ByteArray) (w : World) (hp : Pow w) (hw : NamesAt w 0)  :
    Calls Tryz.prog 16 #[.iface 64 (.agg #[.int .i64 17])] w fun e w' => e = .returned (.string (opText 17 n m s)) ∧ Below w.heap.size w w' := by
  have h_bare := as_bare_bare (.agg #[.int .i64 17])
  have HT : Hid (opText 17 n m s = nameB 17) := rfl
  have s0 := nameB_size 17
  have hg0 := hw.1
  have c0 : w.cell? ⟨0, 17, none⟩ = some (.string (nameB 17)) := hw.one 17 (by omega)
  generalize nameB 17 = N at *
  have HP : Hid (Pow w) := hp
  clear hp hw
  have d0 : (w.alloc (.cells #[.int .i64 17] 64)).cell? ⟨0, 17, none⟩ = some (.string N) := (World.cell?_alloc_lt _ _ _ hg0).trans c0
  have b0 : (w.alloc (.cells #[.int .i64 17] 64)).cell? ⟨w.heap.size, 0, none⟩ = some (.int .i64 17) := by simp
  have HWA : Below w.heap.size w (w.alloc (.cells #[.int .i64 17] 64)) := (Below.refl _ w).alloc (Nat.le_refl _) _
  clear c0
  go_enter Tryz.func16, Tryz.ntmps16
  go_wp2
  go_ret
  exact ⟨by rw [HT.out]; rfl, HWA⟩

end Go.Proofs.YtlaeilcipibelaaGreatDoor

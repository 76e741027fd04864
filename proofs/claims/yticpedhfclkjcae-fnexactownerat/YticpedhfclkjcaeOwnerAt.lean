/- What OwnerAt answers, the specification's and the program's. -/
import Derived.Test.YticpedhfclkjcaeOwner
namespace Go.Proofs.Yticpedhfclkjcae
open Go.RowKit

/-- What OwnerAt answers. -/
def ownerB (major : Int) (len : Nat) (Z : Nat → Int) (t : Int) : Int := if frameB major len Z = true ∧ 0 ≤ t ∧ t ≤ 1000000000 then ownerZ Z len (t % major) else -1
theorem ownerB_yes {major : Int} {len : Nat} {Z : Nat → Int} {t : Int} (h : frameB major len Z = true ∧ 0 ≤ t ∧ t ≤ 1000000000) : ownerB major len Z t = ownerZ Z len (t % major) := if_pos h
theorem ownerB_no {major : Int} {len : Nat} {Z : Nat → Int} {t : Int} (h : ¬ (frameB major len Z = true ∧ 0 ≤ t ∧ t ≤ 1000000000)) : ownerB major len Z t = -1 := if_neg h

set_option maxHeartbeats 1000000 in
theorem specOwnerAt_any (major t : Int) (g len cap : Nat) (Z : Nat → Int) (w : World) (hl : len ≤ 1048576) (hz : ∀ j, -9223372036854775808 ≤ Z j ∧ Z j ≤ 9223372036854775807) (hr : WinsAt w g len Z) :
    Calls Try.prog 10 #[.agg #[.int .i64 major, .slice (some ⟨g, 0, none⟩) len cap], .int .i64 t] w fun e w' => e = .returned (.int .i64 (ownerB major len Z t)) ∧ Below w.heap.size w w' := by
  have HR : Hid (WinsAt w g len Z) := hr
  have HZ : Hid (∀ j, -9223372036854775808 ≤ Z j ∧ Z j ≤ 9223372036854775807) := hz
  clear hr hz
  cases hf : frameB major len Z with
  | false =>
    have HF : Hid (frameB major len Z = false) := hf
    clear hf
    go_enter Try.func10, Try.ntmps10
    go_wp2_with fail
    refine (specFrameOk_any major g len cap Z _ hl HZ.out (HR.out.alloc _)).mono ?_
    rintro e w1 ⟨rfl, hb1⟩
    rw [HF.out]
    go_wp2
    go_ret
    exact ⟨ret_int (ownerB_no (by rw [HF.out]; simp)).symm, ((Below.refl _ _).alloc (Nat.le_refl _) _).trans (hb1.mono (by simp))⟩
  | true =>
    have HF : Hid (frameB major len Z = true) := hf
    clear hf
    by_cases ht : ¬ (0 ≤ t ∧ t ≤ 1000000000)
    · have hin : inB t 0 1000000000 = false := by simp [inB]; omega
      go_enter Try.func10, Try.ntmps10
      go_wp2_with fail
      refine (specFrameOk_any major g len cap Z _ hl HZ.out (HR.out.alloc _)).mono ?_
      rintro e w1 ⟨rfl, hb1⟩
      rw [HF.out]
      go_wp2_with (go_at_call 13; refine (l1In_any _ _ _ _).mono ?_; rintro e w' ⟨rfl, rfl⟩)
      go_ret
      exact ⟨ret_int (ownerB_no (by omega)).symm, ((Below.refl _ _).alloc (Nat.le_refl _) _).trans (hb1.mono (by simp))⟩
    · have ht : 0 ≤ t ∧ t ≤ 1000000000 := by omega
      have hin : inB t 0 1000000000 = true := inB_true ht.1 ht.2
      obtain ⟨r1, r2, r3, r4⟩ := frameB_out HF.out
      have R4 : Hid (∀ i, i < len → winAt major Z i = true) := r4
      clear r4
      go_enter Try.func10, Try.ntmps10
      go_wp2_with fail
      refine (specFrameOk_any major g len cap Z _ hl HZ.out (HR.out.alloc _)).mono ?_
      rintro e w1 ⟨rfl, hb1⟩
      rw [HF.out]
      have z1 : w.heap.size < w1.heap.size := by have := hb1.size; simp only [World.size_alloc] at this; omega
      have c0 : w1.cell? ⟨w.heap.size, 0, none⟩ = some (.int .i64 major) := (hb1.cell (p := ⟨w.heap.size, 0, none⟩) (by simp)).trans (by simp)
      have c1 : w1.cell? ⟨w.heap.size, 1, none⟩ = some (.slice (some ⟨g, 0, none⟩) len cap) := (hb1.cell (p := ⟨w.heap.size, 1, none⟩) (by simp)).trans (by simp)
      have HB1 : Hid (Below w.heap.size w w1) := ((Below.refl _ _).alloc (Nat.le_refl _) _).trans (hb1.mono (by simp))
      have HR1 : Hid (WinsAt w1 g len Z) := HR.out.of_block (HB1.out.block _ HR.out.lt)
      clear hb1
      go_wp2_with (go_at_call 13; refine (l1In_any _ _ _ _).mono ?_; rintro e w' ⟨rfl, rfl⟩)
      refine (l1Owner_any major t g len cap Z _ r3 r1 r2 R4.out ht.1 (by omega) HR1.out).mono ?_
      rintro e w2 ⟨rfl, hb2⟩
      go_wp2
      go_ret
      exact ⟨ret_int (ownerB_yes ⟨HF.out, ht⟩).symm, HB1.out.trans (hb2.mono (by omega))⟩

set_option maxHeartbeats 1000000 in
set_option maxRecDepth 100000 in
theorem implOwnerAt_any (major t : Int) (g len cap : Nat) (Z : Nat → Int) (w : World) (hl : len ≤ 1048576) (hz : ∀ j, -9223372036854775808 ≤ Z j ∧ Z j ≤ 9223372036854775807) (hr : WinsAt w g len Z) :
    Calls Try.prog 11 #[.agg #[.int .i64 major, .slice (some ⟨g, 0, none⟩) len cap], .int .i64 t] w fun e w' => e = .returned (.int .i64 (ownerB major len Z t)) ∧ Below w.heap.size w w' := by
  obtain ⟨T, hT⟩ : ∃ T, tabZ = T := ⟨_, rfl⟩
  have hs : T.size = 62 := by rw [← hT]; exact tabZ_size
  have ho : T.all (·.oneCell') = true := by rw [← hT]; exact tabZ_one
  have HT : Hid (tabZ = T) := hT
  clear hT
  have HR : Hid (WinsAt w g len Z) := hr
  have HZ : Hid (∀ j, -9223372036854775808 ≤ Z j ∧ Z j ≤ 9223372036854775807) := hz
  clear hr hz
  go_enter Try.func11, Try.ntmps11
  go_wp2_with fail
  refine (tableOf_any major g len cap Z _ hl HZ.out (HR.out.alloc _)).mono ?_
  rintro e w1 ⟨⟨hf, cs, rfl, hc⟩ | ⟨hf, rfl⟩, hb1⟩
  · have hcs := hc.1
    have hco := hc.one
    have HC : Hid (IsTab major len Z cs) := hc
    have HF : Hid (frameB major len Z = true) := hf
    clear hf hc
    have z1 : w.heap.size < w1.heap.size := by have := hb1.size; simp only [World.size_alloc] at this; omega
    have HB1 : Hid (Below w.heap.size w w1) := ((Below.refl _ _).alloc (Nat.le_refl _) _).trans (hb1.mono (by simp))
    clear hb1
    obtain ⟨r1, r2, r3, r4⟩ := frameB_out HF.out
    have R4 : Hid (∀ i, i < len → winAt major Z i = true) := r4
    clear r4
    by_cases t0 : t < 0
    · go_wp2_with (first | (refine wpList_allocTab rfl rfl w1.heap.size rfl T HT.out ?_) | (refine wpList_storeTab rfl (.tmp 5) (.tmp 10) rfl w1.heap.size cs (by rfl) (by rfl) T (by exact heap_alloc_new _ _) hs hcs hco ?_))
      go_ret
      exact ⟨ret_int (ownerB_no (by omega)).symm, below_setRow (HB1.out.alloc (by omega) _) (by omega) _⟩
    by_cases t1 : 1000000000 < t
    · go_wp2_with (first | (refine wpList_allocTab rfl rfl w1.heap.size rfl T HT.out ?_) | (refine wpList_storeTab rfl (.tmp 5) (.tmp 10) rfl w1.heap.size cs (by rfl) (by rfl) T (by exact heap_alloc_new _ _) hs hcs hco ?_))
      go_ret
      exact ⟨ret_int (ownerB_no (by omega)).symm, below_setRow (HB1.out.alloc (by omega) _) (by omega) _⟩
    go_wp2_with (first | (refine wpList_allocTab rfl rfl w1.heap.size rfl T HT.out ?_) | (refine wpList_storeTab rfl (.tmp 5) (.tmp 10) rfl w1.heap.size cs (by rfl) (by rfl) T (by exact heap_alloc_new _ _) hs hcs hco ?_) | (refine wpList_load_row rfl 42 (.tmp 5) rfl w1.heap.size (by rfl) 42 cs (0, 0) _ ?hg Try.underlying42 rfl (tabSize' cs hcs) ?_; (case hg => exact setRow_heap _ _ T _ _ _ (heap_alloc_new _ _))))
    refine (callsIn_wide.1 (ownerAt_in major t cs len Z _ r3 r1 r2 R4.out (by omega) (by omega) HC.out)).mono ?_
    rintro e w2 ⟨rfl, hb2⟩
    go_wp2
    go_ret
    exact ⟨ret_int (ownerB_yes ⟨HF.out, by omega, by omega⟩).symm, (below_setRow (HB1.out.alloc (by omega) _) (by omega) _).trans (hb2.mono (by simp; omega))⟩
  · have HF : Hid (frameB major len Z = false) := hf
    clear hf
    have z1 : w.heap.size < w1.heap.size := by have := hb1.size; simp only [World.size_alloc] at this; omega
    have HB1 : Hid (Below w.heap.size w w1) := ((Below.refl _ _).alloc (Nat.le_refl _) _).trans (hb1.mono (by simp))
    clear hb1
    rw [HT.out]
    go_wp2_with (first | (refine wpList_allocTab rfl rfl w1.heap.size rfl T HT.out ?_) | (refine wpList_storeTab rfl (.tmp 5) (.tmp 10) rfl w1.heap.size T (by rfl) (by rfl) T (by exact heap_alloc_new _ _) hs hs ho ?_))
    go_ret
    exact ⟨ret_int (ownerB_no (by rw [HF.out]; simp)).symm, below_setRow (HB1.out.alloc (by omega) _) (by omega) _⟩

end Go.Proofs.Yticpedhfclkjcae

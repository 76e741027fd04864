/- What LeastSupply answers, the specification's and the program's. -/
import Derived.Test.YticpedhfclkjcafSupplyOf
namespace Go.Proofs.Yticpedhfclkjcaf
open Go.RowKit

/-- The least over the first k beginnings. -/
def leastTo (major : Int) (len : Nat) (Z : Nat → Int) (part n : Int) : Nat → Int
  | 0 => n
  | k + 1 => min (leastTo major len Z part n k) (supZ major len Z part (k + n) - supZ major len Z part k)
def leastB (major : Int) (len : Nat) (Z : Nat → Int) (part n : Int) : Int := if frameB major len Z = true ∧ 0 ≤ n ∧ n ≤ 999999000 then leastTo major len Z part n major.toNat else -1
theorem leastB_yes {major : Int} {len : Nat} {Z : Nat → Int} {part n : Int} (h : frameB major len Z = true ∧ 0 ≤ n ∧ n ≤ 999999000) : leastB major len Z part n = leastTo major len Z part n major.toNat := if_pos h
theorem leastB_no {major : Int} {len : Nat} {Z : Nat → Int} {part n : Int} (h : ¬ (frameB major len Z = true ∧ 0 ≤ n ∧ n ≤ 999999000)) : leastB major len Z part n = -1 := if_neg h

theorem min_if (a b : Int) : (if b < a then b else a) = min a b := by split <;> omega

set_option maxHeartbeats 1000000 in
theorem specLeastSupply_any (major part n : Int) (g len cap : Nat) (Z : Nat → Int) (w : World) (hl : len ≤ 1048576) (hz : ∀ j, -9223372036854775808 ≤ Z j ∧ Z j ≤ 9223372036854775807) (hr : WinsAt w g len Z) :
    Calls Try.prog 12 #[.agg #[.int .i64 major, .slice (some ⟨g, 0, none⟩) len cap], .int .i64 part, .int .i64 n] w fun e w' => e = .returned (.int .i64 (leastB major len Z part n)) ∧ Below w.heap.size w w' := by
  have HR : Hid (WinsAt w g len Z) := hr
  have HZ : Hid (∀ j, -9223372036854775808 ≤ Z j ∧ Z j ≤ 9223372036854775807) := hz
  clear hr hz
  cases hf : frameB major len Z with
  | false =>
    have HF : Hid (frameB major len Z = false) := hf
    clear hf
    go_enter Try.func12, Try.ntmps12
    go_wp2_with fail
    refine (specFrameOk_any major g len cap Z _ hl HZ.out (HR.out.alloc _)).mono ?_
    rintro e w1 ⟨rfl, hb1⟩
    rw [HF.out]
    go_wp2
    go_ret
    exact ⟨ret_int (leastB_no (by rw [HF.out]; simp)).symm, ((Below.refl _ _).alloc (Nat.le_refl _) _).trans (hb1.mono (by simp))⟩
  | true =>
    have HF : Hid (frameB major len Z = true) := hf
    clear hf
    by_cases ht : ¬ (0 ≤ n ∧ n ≤ 999999000)
    · have hin : inB n 0 999999000 = false := by simp [inB]; omega
      go_enter Try.func12, Try.ntmps12
      go_wp2_with fail
      refine (specFrameOk_any major g len cap Z _ hl HZ.out (HR.out.alloc _)).mono ?_
      rintro e w1 ⟨rfl, hb1⟩
      rw [HF.out]
      go_wp2_with (go_at_call 22; refine (l1In_any _ _ _ _).mono ?_; rintro e wx ⟨rfl, hx⟩; rw [hx]; clear hx wx)
      go_ret
      exact ⟨ret_int (leastB_no (by omega)).symm, ((Below.refl _ _).alloc (Nat.le_refl _) _).trans (hb1.mono (by simp))⟩
    have ht : 0 ≤ n ∧ n ≤ 999999000 := by omega
    have hin : inB n 0 999999000 = true := inB_true ht.1 ht.2
    obtain ⟨r1, r2, r3, r4⟩ := frameB_out HF.out
    have R4 : Hid (∀ i, i < len → winAt major Z i = true) := r4
    clear r4
    go_enter Try.func12, Try.ntmps12
    go_wp2_with fail
    refine (specFrameOk_any major g len cap Z _ hl HZ.out (HR.out.alloc _)).mono ?_
    rintro e w1 ⟨rfl, hb1⟩
    rw [HF.out]
    have z1 : w.heap.size < w1.heap.size := by have := hb1.size; simp only [World.size_alloc] at this; omega
    have c0 : w1.cell? ⟨w.heap.size, 0, none⟩ = some (.int .i64 major) := (hb1.cell (p := ⟨w.heap.size, 0, none⟩) (by simp)).trans (by simp)
    have c1 : w1.cell? ⟨w.heap.size, 1, none⟩ = some (.slice (some ⟨g, 0, none⟩) len cap) := (hb1.cell (p := ⟨w.heap.size, 1, none⟩) (by simp)).trans (by simp)
    have HB1 : Hid (Below w.heap.size w w1) := ((Below.refl _ _).alloc (Nat.le_refl _) _).trans (hb1.mono (by simp))
    clear hb1
    go_wp2_with (go_at_call 22; refine (l1In_any _ _ _ _).mono ?_; rintro e wx ⟨rfl, hx⟩; rw [hx]; clear hx wx)
    go_loopw [7, 8] (fun m i wr => ∃ k : Nat, (k : Int) ≤ major ∧ i = .int .i64 k ∧ m = .int .i64 (leastTo major len Z part n k) ∧ Below w1.heap.size w1 wr) (fun _ i _ => (major - intOf i).toNat)
    case atStart => exact ⟨0, by omega, rfl, rfl, Below.refl _ _⟩
    case round =>
      obtain ⟨k, hk, rfl, rfl, hbel⟩ := hrel
      have zr : w1.heap.size ≤ wr.heap.size := hbel.size
      have m0 : wr.cell? ⟨w.heap.size, 0, none⟩ = some (.int .i64 major) := (hbel.cell (p := ⟨w.heap.size, 0, none⟩) z1).trans c0
      have m1 : wr.cell? ⟨w.heap.size, 1, none⟩ = some (.slice (some ⟨g, 0, none⟩) len cap) := (hbel.cell (p := ⟨w.heap.size, 1, none⟩) z1).trans c1
      have HB : Hid (Below w.heap.size w wr) := HB1.out.trans (hbel.mono (by omega))
      by_cases hlt : (k : Int) < major
      · have HRr : Hid (WinsAt wr g len Z) := HR.out.of_block (HB.out.block _ HR.out.lt)
        have s1 := supZ_bd (part := part) (t := (k : Int)) r3 r1 r2 R4.out (by omega) (by omega)
        have s2 := supZ_bd (part := part) (t := (k : Int) + n) r3 r1 r2 R4.out (by omega) (by omega)
        have HL : Hid (leastTo major len Z part n (k + 1) = min (leastTo major len Z part n k) (supZ major len Z part (k + n) - supZ major len Z part k)) := rfl
        have zw : w.heap.size < wr.heap.size := by omega
        have kn : IntKind.i64.wrap ((k : Int) + n) = (k : Int) + n := wrapI (by omega) (by omega)
        go_wp2
        go_region_held3 (fun w' => w'.cell? ⟨w.heap.size, 0, none⟩ = some (.int .i64 major) ∧ w'.cell? ⟨w.heap.size, 1, none⟩ = some (.slice (some ⟨g, 0, none⟩) len cap))
          (first | go_keep | exact ⟨(hb2.cell (p := ⟨w.heap.size, 0, none⟩) zw).trans m0, (hb2.cell (p := ⟨w.heap.size, 1, none⟩) zw).trans m1⟩ | exact ⟨(hb3.cell (p := ⟨w.heap.size, 0, none⟩) (Nat.lt_of_lt_of_le zw z2)).trans ((hb2.cell (p := ⟨w.heap.size, 0, none⟩) zw).trans m0), (hb3.cell (p := ⟨w.heap.size, 1, none⟩) (Nat.lt_of_lt_of_le zw z2)).trans ((hb2.cell (p := ⟨w.heap.size, 1, none⟩) zw).trans m1)⟩)
          (first | (go_at_call_of 23 (Value.int IntKind.i64 ((k : Int) + n)); refine (l1Supply_any major part (k + n) g len cap Z _ r3 r1 r2 R4.out (by omega) (by omega) (by exact HRr.out)).mono ?_; rintro e w2 ⟨rfl, hb2⟩; have z2 : wr.heap.size ≤ w2.heap.size := hb2.size; have HR2 : Hid (WinsAt w2 g len Z) := HRr.out.of_block (hb2.block _ HRr.out.lt)) | (go_at_call_of 23 (Value.int IntKind.i64 (k : Int)); refine (l1Supply_any major part k g len cap Z _ r3 r1 r2 R4.out (by omega) (by omega) (by exact HR2.out)).mono ?_; rintro e w3 ⟨rfl, hb3⟩))
        have ws : IntKind.i64.wrap (supZ major len Z part (↑k + n) - supZ major len Z part ↑k) = supZ major len Z part (↑k + n) - supZ major len Z part ↑k := wrapI (by omega) (by omega)
        simp only [ws, min_if]
        clear ws kn
        go_wp2
        go_roundw
        case rel => exact ⟨k + 1, by omega, by go_num, by rw [HL.out], (hbel.drew.trans (hb2.mono zr)).trans (hb3.mono (by omega))⟩
        case measure => simp [intOf]; omega
      · go_wp2
        go_ret
        have e : major.toNat = k := by omega
        exact ⟨ret_int (by rw [leastB_yes ⟨HF.out, ht⟩, e]), HB.out⟩

set_option maxHeartbeats 1000000 in
set_option maxRecDepth 100000 in
theorem implLeastSupply_any (major part n : Int) (g len cap : Nat) (Z : Nat → Int) (w : World) (hl : len ≤ 1048576) (hz : ∀ j, -9223372036854775808 ≤ Z j ∧ Z j ≤ 9223372036854775807) (hr : WinsAt w g len Z) :
    Calls Try.prog 13 #[.agg #[.int .i64 major, .slice (some ⟨g, 0, none⟩) len cap], .int .i64 part, .int .i64 n] w fun e w' => e = .returned (.int .i64 (leastB major len Z part n)) ∧ Below w.heap.size w w' := by
  obtain ⟨T, hT⟩ : ∃ T, tabZ = T := ⟨_, rfl⟩
  have hs : T.size = 62 := by rw [← hT]; exact tabZ_size
  have ho : T.all (·.oneCell') = true := by rw [← hT]; exact tabZ_one
  have HT : Hid (tabZ = T) := hT
  clear hT
  have HR : Hid (WinsAt w g len Z) := hr
  have HZ : Hid (∀ j, -9223372036854775808 ≤ Z j ∧ Z j ≤ 9223372036854775807) := hz
  clear hr hz
  go_enter Try.func13, Try.ntmps13
  go_wp2_with fail
  refine (tableOf_any major g len cap Z _ hl HZ.out (HR.out.alloc _)).mono ?_
  rintro e w1 ⟨⟨hf, cs, rfl, hc⟩ | ⟨hf, rfl⟩, hb1⟩
  · have hcs := hc.1
    have hco := hc.one
    have HC : Hid (IsTab major len Z cs) := hc
    have HF : Hid (frameB major len Z = true) := hf
    clear hf hc
    have z1 : w.heap.size < w1.heap.size := by have := hb1.size; simp only [World.size_alloc] at this; omega
    have HB1 : Hid (Below w.heap.size w w1) := ((Below.refl _ _).alloc (Nat.le_refl _) _).trans (hb1.mono (by simp))
    clear hb1
    obtain ⟨r1, r2, r3, r4⟩ := frameB_out HF.out
    have R4 : Hid (∀ i, i < len → winAt major Z i = true) := r4
    clear r4
    by_cases t0 : n < 0
    · go_wp2_with (first | (refine wpList_allocTab rfl rfl w1.heap.size rfl T HT.out ?_) | (refine wpList_storeTab rfl (.tmp 7) (.tmp 14) rfl w1.heap.size cs (by rfl) (by rfl) T (by exact heap_alloc_new _ _) hs hcs hco ?_))
      go_ret
      exact ⟨ret_int (leastB_no (by omega)).symm, below_setRow (HB1.out.alloc (by omega) _) (by omega) _⟩
    by_cases t1 : 999999000 < n
    · go_wp2_with (first | (refine wpList_allocTab rfl rfl w1.heap.size rfl T HT.out ?_) | (refine wpList_storeTab rfl (.tmp 7) (.tmp 14) rfl w1.heap.size cs (by rfl) (by rfl) T (by exact heap_alloc_new _ _) hs hcs hco ?_))
      go_ret
      exact ⟨ret_int (leastB_no (by omega)).symm, below_setRow (HB1.out.alloc (by omega) _) (by omega) _⟩
    have HST : Hid (∀ X : World, X.heap.size = w1.heap.size → (X.alloc (.cells T 50)).setRow w1.heap.size cs = X.alloc (.cells cs 50)) := fun X hX => by rw [← hX]; exact World.setRow_alloc_new _ _ _ _
    have hlt0 : 0 < cs.size := by omega
    have hmaj : cs[0] = .int .i64 major := by have := HC.out.major; rw [Array.getElem?_eq_getElem hlt0] at this; exact Option.some.inj this
    go_wp2_with (first | (refine wpList_allocTab rfl rfl w1.heap.size rfl T HT.out ?_) | (refine wpList_storeTab rfl (.tmp 7) (.tmp 14) rfl w1.heap.size cs (by rfl) (by rfl) T (by exact heap_alloc_new _ _) hs hcs hco ?_; rw [HST.out _ rfl]))
    go_loopw [9, 29] (fun m i wr => ∃ k : Nat, (k : Int) ≤ major ∧ i = .int .i64 k ∧ m = .int .i64 (leastTo major len Z part n k) ∧ Below (w1.heap.size + 1) (w1.alloc (.cells cs 50)) wr) (fun _ i _ => (major - intOf i).toNat)
    case atStart => exact ⟨0, by omega, rfl, rfl, Below.refl _ _⟩
    case round =>
      obtain ⟨k, hk, rfl, rfl, hbel⟩ := hrel
      have HB : Hid (Below w.heap.size w wr) := (HB1.out.alloc (by omega) _).trans (hbel.mono (by omega))
      have zr : w1.heap.size < wr.heap.size := by have := hbel.size; simp only [World.size_alloc] at this; omega
      have HX : Hid (wr.heap[w1.heap.size]? = some (.cells cs 50 (0, 0))) := (hbel.block _ (by omega)).trans (heap_alloc_new _ _)
      by_cases hlt : (k : Int) < major
      · have HL : Hid (leastTo major len Z part n (k + 1) = min (leastTo major len Z part n k) (supZ major len Z part (k + n) - supZ major len Z part k)) := rfl
        go_wp2_with (refine wpList_loadTab rfl (.tmp 7) rfl w1.heap.size (by rfl) cs HX.out hcs ?_)
        refine (supply_any major part k (k + n) cs len Z _ r3 r1 r2 R4.out (by omega) (by omega) (by omega) (by omega) HC.out).mono ?_
        rintro e w2 ⟨rfl, hb2⟩
        generalize hv : supZ major len Z part (k + n) - supZ major len Z part k = v at *
        have HV : Hid (supZ major len Z part (k + n) - supZ major len Z part k = v) := hv
        clear hv
        go_wp2
        all_goals
          go_roundw
          case rel => exact ⟨k + 1, by omega, by go_num, by (rw [HL.out]; first | rw [HV.out] | skip); congr 1; omega, hbel.trans (hb2.mono (by omega))⟩
          case measure => simp [intOf]; omega
      · go_wp2
        go_ret
        have e : major.toNat = k := by omega
        exact ⟨ret_int (by rw [leastB_yes ⟨HF.out, by omega, by omega⟩, e]), HB.out⟩
  · have HF : Hid (frameB major len Z = false) := hf
    clear hf
    have z1 : w.heap.size < w1.heap.size := by have := hb1.size; simp only [World.size_alloc] at this; omega
    have HB1 : Hid (Below w.heap.size w w1) := ((Below.refl _ _).alloc (Nat.le_refl _) _).trans (hb1.mono (by simp))
    clear hb1
    rw [HT.out]
    go_wp2_with (first | (refine wpList_allocTab rfl rfl w1.heap.size rfl T HT.out ?_) | (refine wpList_storeTab rfl (.tmp 7) (.tmp 14) rfl w1.heap.size T (by rfl) (by rfl) T (by exact heap_alloc_new _ _) hs hs ho ?_))
    go_ret
    exact ⟨ret_int (leastB_no (by rw [HF.out]; simp)).symm, below_setRow (HB1.out.alloc (by omega) _) (by omega) _⟩

end Go.Proofs.Yticpedhfclkjcaf

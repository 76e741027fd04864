/- What NextAt answers, the specification's and the program's. -/
import Derived.Test.YticpedhfclkjcafOwner
namespace Go.Proofs.Yticpedhfclkjcaf
open Go.RowKit

def ownsB (major : Int) (len : Nat) (Z : Nat → Int) (part t : Int) (j : Nat) : Bool := ownerZ Z len ((t + j) % major) == part
def nextZ (major : Int) (len : Nat) (Z : Nat → Int) (part t : Int) : Int := match (List.range major.toNat).find? (ownsB major len Z part t) with
  | some j => t + j
  | none => -1
theorem nextZ_hit {major : Int} {len : Nat} {Z : Nat → Int} {part t : Int} {k : Nat} (hk : (k : Int) < major) (h : ownsB major len Z part t k = true) (hb : ∀ i, i < k → ownsB major len Z part t i = false) : nextZ major len Z part t = t + k := by
  have : (List.range major.toNat).find? (ownsB major len Z part t) = some k := by
    rw [List.find?_range_eq_some]
    exact ⟨h, by simp; omega, fun j hj => by simp [hb j hj]⟩
  simp only [nextZ, this]
theorem nextZ_none {major : Int} {len : Nat} {Z : Nat → Int} {part t : Int} (hb : ∀ i : Nat, (i : Int) < major → ownsB major len Z part t i = false) : nextZ major len Z part t = -1 := by
  have : (List.range major.toNat).find? (ownsB major len Z part t) = none := by
    rw [List.find?_range_eq_none]
    exact fun i hi => by simp [hb i (by omega)]
  simp only [nextZ, this]

/-- What NextAt answers. -/
def nextB (major : Int) (len : Nat) (Z : Nat → Int) (part t : Int) : Int := if frameB major len Z = true ∧ 0 ≤ t ∧ t ≤ 999999000 then nextZ major len Z part t else -1
theorem nextB_yes {major : Int} {len : Nat} {Z : Nat → Int} {part t : Int} (h : frameB major len Z = true ∧ 0 ≤ t ∧ t ≤ 999999000) : nextB major len Z part t = nextZ major len Z part t := if_pos h
theorem nextB_no {major : Int} {len : Nat} {Z : Nat → Int} {part t : Int} (h : ¬ (frameB major len Z = true ∧ 0 ≤ t ∧ t ≤ 999999000)) : nextB major len Z part t = -1 := if_neg h

set_option maxHeartbeats 1000000 in
theorem specNextAt_any (major part t : Int) (g len cap : Nat) (Z : Nat → Int) (w : World) (hl : len ≤ 1048576) (hz : ∀ j, -9223372036854775808 ≤ Z j ∧ Z j ≤ 9223372036854775807) (hr : WinsAt w g len Z) :
    Calls Try.prog 14 #[.agg #[.int .i64 major, .slice (some ⟨g, 0, none⟩) len cap], .int .i64 part, .int .i64 t] w fun e w' => e = .returned (.int .i64 (nextB major len Z part t)) ∧ Below w.heap.size w w' := by
  have HR : Hid (WinsAt w g len Z) := hr
  have HZ : Hid (∀ j, -9223372036854775808 ≤ Z j ∧ Z j ≤ 9223372036854775807) := hz
  clear hr hz
  cases hf : frameB major len Z with
  | false =>
    have HF : Hid (frameB major len Z = false) := hf
    clear hf
    go_enter Try.func14, Try.ntmps14
    go_wp2_with fail
    refine (specFrameOk_any major g len cap Z _ hl HZ.out (HR.out.alloc _)).mono ?_
    rintro e w1 ⟨rfl, hb1⟩
    rw [HF.out]
    go_wp2
    go_ret
    exact ⟨ret_int (nextB_no (by rw [HF.out]; simp)).symm, ((Below.refl _ _).alloc (Nat.le_refl _) _).trans (hb1.mono (by simp))⟩
  | true =>
    have HF : Hid (frameB major len Z = true) := hf
    clear hf
    by_cases ht : ¬ (0 ≤ t ∧ t ≤ 999999000)
    · have hin : inB t 0 999999000 = false := by simp [inB]; omega
      go_enter Try.func14, Try.ntmps14
      go_wp2_with fail
      refine (specFrameOk_any major g len cap Z _ hl HZ.out (HR.out.alloc _)).mono ?_
      rintro e w1 ⟨rfl, hb1⟩
      rw [HF.out]
      go_wp2_with (go_at_call 22; refine (l1In_any _ _ _ _).mono ?_; rintro e w' ⟨rfl, rfl⟩)
      go_ret
      exact ⟨ret_int (nextB_no (by omega)).symm, ((Below.refl _ _).alloc (Nat.le_refl _) _).trans (hb1.mono (by simp))⟩
    · have ht : 0 ≤ t ∧ t ≤ 999999000 := by omega
      have hin : inB t 0 999999000 = true := inB_true ht.1 ht.2
      obtain ⟨r1, r2, r3, r4⟩ := frameB_out HF.out
      have R4 : Hid (∀ i, i < len → winAt major Z i = true) := r4
      clear r4
      go_enter Try.func14, Try.ntmps14
      go_wp2_with fail
      refine (specFrameOk_any major g len cap Z _ hl HZ.out (HR.out.alloc _)).mono ?_
      rintro e w1 ⟨rfl, hb1⟩
      rw [HF.out]
      have z1 : w.heap.size < w1.heap.size := by have := hb1.size; simp only [World.size_alloc] at this; omega
      have c0 : w1.cell? ⟨w.heap.size, 0, none⟩ = some (.int .i64 major) := (hb1.cell (p := ⟨w.heap.size, 0, none⟩) (by simp)).trans (by simp)
      have c1 : w1.cell? ⟨w.heap.size, 1, none⟩ = some (.slice (some ⟨g, 0, none⟩) len cap) := (hb1.cell (p := ⟨w.heap.size, 1, none⟩) (by simp)).trans (by simp)
      have HB1 : Hid (Below w.heap.size w w1) := ((Below.refl _ _).alloc (Nat.le_refl _) _).trans (hb1.mono (by simp))
      clear hb1
      go_wp2_with (go_at_call 22; refine (l1In_any _ _ _ _).mono ?_; rintro e wx ⟨rfl, hx⟩; rw [hx]; clear hx wx)
      go_loopw [7] (fun i wr => ∃ k : Nat, (k : Int) ≤ major ∧ i = .int .i64 (t + k) ∧ (∀ i, i < k → ownsB major len Z part t i = false) ∧ Below w1.heap.size w1 wr) (fun i _ => (major + t - intOf i).toNat)
      case atStart => exact ⟨0, by omega, by simp, fun i hi => by omega, Below.refl _ _⟩
      case round =>
        obtain ⟨k, hk, rfl, hno, hbel⟩ := hrel
        have HN : Hid (∀ i, i < k → ownsB major len Z part t i = false) := hno
        clear hno
        have m0 : wr.cell? ⟨w.heap.size, 0, none⟩ = some (.int .i64 major) := (hbel.cell (p := ⟨w.heap.size, 0, none⟩) z1).trans c0
        have m1 : wr.cell? ⟨w.heap.size, 1, none⟩ = some (.slice (some ⟨g, 0, none⟩) len cap) := (hbel.cell (p := ⟨w.heap.size, 1, none⟩) z1).trans c1
        have HB : Hid (Below w.heap.size w wr) := HB1.out.trans (hbel.mono (by omega))
        by_cases hlt : (k : Int) < major
        · have HRr : Hid (WinsAt wr g len Z) := HR.out.of_block (HB.out.block _ HR.out.lt)
          have hlt' : t + k < t + major := by omega
          go_wp2_with fail
          refine (l1Owner_any major (t + k) g len cap Z _ r3 r1 r2 R4.out (by omega) (by omega) HRr.out).mono ?_
          rintro e w2 ⟨rfl, hb2⟩
          cases ho : ownsB major len Z part t k with
          | true =>
            have ho' : (ownerZ Z len ((t + k) % major) == part) = true := ho
            have HO : Hid (ownsB major len Z part t k = true) := ho
            clear ho
            go_wp2
            go_ret
            exact ⟨ret_int ((nextB_yes ⟨HF.out, ht⟩).trans (nextZ_hit hlt HO.out HN.out)).symm, HB.out.trans (hb2.mono (by have := hbel.size; omega))⟩
          | false =>
            have ho' : (ownerZ Z len ((t + k) % major) == part) = false := ho
            have HO : Hid (ownsB major len Z part t k = false) := ho
            clear ho
            go_wp2
            go_roundw
            case rel =>
              refine ⟨k + 1, by omega, by go_num, ?_, hbel.trans (hb2.mono hbel.size)⟩
              intro i hi
              by_cases e : i = k
              · subst e; exact HO.out
              · exact HN.out i (by omega)
            case measure => simp [intOf]; omega
        · have hlt' : ¬ t + (k : Int) < t + major := by omega
          go_wp2
          go_ret
          exact ⟨ret_int ((nextB_yes ⟨HF.out, ht⟩).trans (nextZ_none (fun i hi => HN.out i (by omega)))).symm, HB.out⟩

set_option maxHeartbeats 1000000 in
set_option maxRecDepth 100000 in
theorem implNextAt_any (major part t : Int) (g len cap : Nat) (Z : Nat → Int) (w : World) (hl : len ≤ 1048576) (hz : ∀ j, -9223372036854775808 ≤ Z j ∧ Z j ≤ 9223372036854775807) (hr : WinsAt w g len Z) :
    Calls Try.prog 15 #[.agg #[.int .i64 major, .slice (some ⟨g, 0, none⟩) len cap], .int .i64 part, .int .i64 t] w fun e w' => e = .returned (.int .i64 (nextB major len Z part t)) ∧ Below w.heap.size w w' := by
  obtain ⟨T, hT⟩ : ∃ T, tabZ = T := ⟨_, rfl⟩
  have hs : T.size = 62 := by rw [← hT]; exact tabZ_size
  have ho : T.all (·.oneCell') = true := by rw [← hT]; exact tabZ_one
  have HT : Hid (tabZ = T) := hT
  clear hT
  have HR : Hid (WinsAt w g len Z) := hr
  have HZ : Hid (∀ j, -9223372036854775808 ≤ Z j ∧ Z j ≤ 9223372036854775807) := hz
  clear hr hz
  go_enter Try.func15, Try.ntmps15
  go_wp2_with fail
  refine (tableOf_any major g len cap Z _ hl HZ.out (HR.out.alloc _)).mono ?_
  rintro e w1 ⟨⟨hf, cs, rfl, hc⟩ | ⟨hf, rfl⟩, hb1⟩
  · have hcs := hc.1
    have hco := hc.one
    have HC : Hid (IsTab major len Z cs) := hc
    have HF : Hid (frameB major len Z = true) := hf
    clear hf hc
    have z1 : w.heap.size < w1.heap.size := by have := hb1.size; simp only [World.size_alloc] at this; omega
    have HB1 : Hid (Below w.heap.size w w1) := ((Below.refl _ _).alloc (Nat.le_refl _) _).trans (hb1.mono (by simp))
    clear hb1
    obtain ⟨r1, r2, r3, r4⟩ := frameB_out HF.out
    have R4 : Hid (∀ i, i < len → winAt major Z i = true) := r4
    clear r4
    by_cases t0 : t < 0
    · go_wp2_with (first | (refine wpList_allocTab rfl rfl w1.heap.size rfl T HT.out ?_) | (refine wpList_storeTab rfl (.tmp 7) (.tmp 13) rfl w1.heap.size cs (by rfl) (by rfl) T (by exact heap_alloc_new _ _) hs hcs hco ?_))
      go_ret
      exact ⟨ret_int (nextB_no (by omega)).symm, below_setRow (HB1.out.alloc (by omega) _) (by omega) _⟩
    by_cases t1 : 999999000 < t
    · go_wp2_with (first | (refine wpList_allocTab rfl rfl w1.heap.size rfl T HT.out ?_) | (refine wpList_storeTab rfl (.tmp 7) (.tmp 13) rfl w1.heap.size cs (by rfl) (by rfl) T (by exact heap_alloc_new _ _) hs hcs hco ?_))
      go_ret
      exact ⟨ret_int (nextB_no (by omega)).symm, below_setRow (HB1.out.alloc (by omega) _) (by omega) _⟩
    have hst : ∀ X : World, X.heap.size = w1.heap.size → (X.alloc (.cells T 50)).setRow w1.heap.size cs = X.alloc (.cells cs 50) := fun X hX => by rw [← hX]; exact World.setRow_alloc_new _ _ _ _
    have HST := (show Hid (∀ X : World, X.heap.size = w1.heap.size → (X.alloc (.cells T 50)).setRow w1.heap.size cs = X.alloc (.cells cs 50)) from hst)
    clear hst
    have hlt0 : 0 < cs.size := by omega
    have hmaj : cs[0] = .int .i64 major := by have := HC.out.major; rw [Array.getElem?_eq_getElem hlt0] at this; exact Option.some.inj this
    go_wp2_with (first | (refine wpList_allocTab rfl rfl w1.heap.size rfl T HT.out ?_) | (refine wpList_storeTab rfl (.tmp 7) (.tmp 13) rfl w1.heap.size cs (by rfl) (by rfl) T (by exact heap_alloc_new _ _) hs hcs hco ?_; rw [HST.out _ rfl]))
    go_loopw [27] (fun i wr => ∃ k : Nat, (k : Int) ≤ major ∧ i = .int .i64 k ∧ (∀ i, i < k → ownsB major len Z part t i = false) ∧ Below (w1.heap.size + 1) (w1.alloc (.cells cs 50)) wr) (fun i _ => (major - intOf i).toNat)
    case atStart => exact ⟨0, by omega, rfl, fun i hi => by omega, Below.refl _ _⟩
    case round =>
      obtain ⟨k, hk, rfl, hno, hbel⟩ := hrel
      have HN : Hid (∀ i, i < k → ownsB major len Z part t i = false) := hno
      clear hno
      have HB : Hid (Below w.heap.size w wr) := (HB1.out.alloc (by omega) _).trans (hbel.mono (by omega))
      have zr : w1.heap.size < wr.heap.size := by have := hbel.size; simp only [World.size_alloc] at this; omega
      have HX : Hid (wr.heap[w1.heap.size]? = some (.cells cs 50 (0, 0))) := (hbel.block _ (by omega)).trans (heap_alloc_new _ _)
      by_cases hlt : (k : Int) < major
      · go_wp2_with (refine wpList_load_row rfl 50 (.tmp 7) rfl w1.heap.size (by rfl) 50 cs (0, 0) _ HX.out Try.underlying50 rfl (tabSize' cs hcs) ?_)
        refine (callsIn_wide.1 (ownerAt_in major (t + k) cs len Z _ r3 r1 r2 R4.out (by omega) (by omega) HC.out)).mono ?_
        rintro e w2 ⟨rfl, hb2⟩
        cases ho : ownsB major len Z part t k with
        | true =>
          have ho' : (ownerZ Z len ((t + k) % major) == part) = true := ho
          have HO : Hid (ownsB major len Z part t k = true) := ho
          clear ho
          go_wp2
          go_ret
          exact ⟨ret_int ((nextB_yes ⟨HF.out, by omega, by omega⟩).trans (nextZ_hit hlt HO.out HN.out)).symm, HB.out.trans (hb2.mono (by omega))⟩
        | false =>
          have ho' : (ownerZ Z len ((t + k) % major) == part) = false := ho
          have HO : Hid (ownsB major len Z part t k = false) := ho
          clear ho
          go_wp2
          go_roundw
          case rel =>
            refine ⟨k + 1, by omega, by go_num, ?_, hbel.trans (hb2.mono (by omega))⟩
            intro i hi
            by_cases e : i = k
            · subst e; exact HO.out
            · exact HN.out i (by omega)
          case measure => simp [intOf]; omega
      · go_wp2
        go_ret
        exact ⟨ret_int ((nextB_yes ⟨HF.out, by omega, by omega⟩).trans (nextZ_none (fun i hi => HN.out i (by omega)))).symm, HB.out⟩
  · have HF : Hid (frameB major len Z = false) := hf
    clear hf
    have z1 : w.heap.size < w1.heap.size := by have := hb1.size; simp only [World.size_alloc] at this; omega
    have HB1 : Hid (Below w.heap.size w w1) := ((Below.refl _ _).alloc (Nat.le_refl _) _).trans (hb1.mono (by simp))
    clear hb1
    rw [HT.out]
    go_wp2_with (first | (refine wpList_allocTab rfl rfl w1.heap.size rfl T HT.out ?_) | (refine wpList_storeTab rfl (.tmp 7) (.tmp 13) rfl w1.heap.size T (by rfl) (by rfl) T (by exact heap_alloc_new _ _) hs hs ho ?_))
    go_ret
    exact ⟨ret_int (nextB_no (by rw [HF.out]; simp)).symm, below_setRow (HB1.out.alloc (by omega) _) (by omega) _⟩

end Go.Proofs.Yticpedhfclkjcaf

/- The text of a frame: what the specification writes. -/
import Derived.Test.YtlaeilcipibelaaDoorOk
import Derived.Test.YtlaeilcipibelaaDoorDec
import Derived.Deep.RegionHeld3
namespace Go.Proofs.YtlaeilcipibelaaDoor
open Go.RowKit

def winText (t : ByteArray) (a l p : Int) : ByteArray := t ++ ⟨#[32]⟩ ++ decB a ++ ⟨#[58]⟩ ++ decB l ++ ⟨#[58]⟩ ++ decB p
def textTo (major : Int) (Z : Nat → Int) : Nat → ByteArray
  | 0 => decB major
  | k + 1 => winText (textTo major Z k) (Z (k * 3)) (Z (k * 3 + 1)) (Z (k * 3 + 2))
/-- The text of a frame; none when it is not right. -/
def textB (major : Int) (len : Nat) (Z : Nat → Int) : ByteArray := if frameB major len Z = true then textTo major Z len else ⟨#[]⟩
theorem textTo_size {major : Int} {Z : Nat → Int} (h1 : 1 ≤ major) (h2 : major ≤ 1000) : ∀ k, (∀ i, i < k → winAt major Z i = true) → (textTo major Z k).size ≤ 11 + 36 * k
  | 0, _ => by have := decB_size (n := major) (by omega) (by omega); simp only [textTo]; omega
  | k + 1, h => by
    have ih := textTo_size h1 h2 k (fun i hi => h i (by omega))
    have hw := winB_out (h k (by omega))
    have he := (endAt_nonneg k (fun i hi => h i (by omega))).1
    have s1 := decB_size (n := Z (k * 3)) (by omega) (by omega)
    have s2 := decB_size (n := Z (k * 3 + 1)) (by omega) (by omega)
    have s3 := decB_size (n := Z (k * 3 + 2)) (by omega) (by omega)
    simp only [textTo, winText, ByteArray.size_append]
    have e1 : (⟨#[32]⟩ : ByteArray).size = 1 := rfl
    have e2 : (⟨#[58]⟩ : ByteArray).size = 1 := rfl
    omega

/-- What lay below two worlds is as it was. -/
def Two (w w2 x : World) : Prop := Below w.heap.size w x ∧ Below w2.heap.size w2 x
theorem Two.drew {w w2 x : World} (h : Two w w2 x) : Two w w2 x.drew := ⟨h.1.drew, h.2.drew⟩
theorem Two.trans {w w2 x y : World} (h : Two w w2 x) (hb : Below x.heap.size x y) : Two w w2 y := ⟨h.1.trans (hb.mono h.1.size), h.2.trans (hb.mono h.2.size)⟩
theorem Two.alloc {w w2 x : World} (h : Two w w2 x) (o : Obj) : Two w w2 (x.alloc o) := ⟨h.1.alloc h.1.size _, h.2.alloc h.2.size _⟩

set_option maxHeartbeats 4000000 in
theorem specFrameText_any (major : Int) (g len cap : Nat) (Z : Nat → Int) (w : World) (hl : len ≤ 1048576) (hz : ∀ j, -9223372036854775808 ≤ Z j ∧ Z j ≤ 9223372036854775807) (hr : WinsAt w g len Z) :
    Calls Tryd.prog 12 #[.agg #[.int .i64 major, .slice (some ⟨g, 0, none⟩) len cap]] w fun e w' => e = .returned (.string (textB major len Z)) ∧ Below w.heap.size w w' := by
  have HR : Hid (WinsAt w g len Z) := hr
  have HZ : Hid (∀ j, -9223372036854775808 ≤ Z j ∧ Z j ≤ 9223372036854775807) := hz
  clear hr hz
  have hgl := HR.out.lt
  go_enter Tryd.func12, Tryd.ntmps12
  go_wp2_with fail
  have HR0 : Hid (WinsAt (w.alloc (.cells #[.int .i64 major, .slice (some ⟨g, 0, none⟩) len cap] 26)) g len Z) := HR.out.alloc _
  have HB0 : Hid (Below w.heap.size w (w.alloc (.cells #[.int .i64 major, .slice (some ⟨g, 0, none⟩) len cap] 26)) ∧ (w.alloc (.cells #[.int .i64 major, .slice (some ⟨g, 0, none⟩) len cap] 26)).cell? ⟨w.heap.size, 0, none⟩ = some (.int .i64 major) ∧ (w.alloc (.cells #[.int .i64 major, .slice (some ⟨g, 0, none⟩) len cap] 26)).cell? ⟨w.heap.size, 1, none⟩ = some (.slice (some ⟨g, 0, none⟩) len cap)) := ⟨(Below.refl _ _).alloc (Nat.le_refl _) _, by simp, by simp⟩
  generalize w.alloc (.cells #[.int .i64 major, .slice (some ⟨g, 0, none⟩) len cap] 26) = W0 at *
  refine (specFrameOk_any major g len cap Z W0 hl HZ.out HR0.out).mono ?_
  rintro e w1 ⟨rfl, hb1⟩
  have HR1 : Hid (WinsAt w1 g len Z) := HR0.out.of_block (hb1.block g HR0.out.lt)
  have HB1 : Hid (Below w.heap.size w w1) := HB0.out.1.trans (hb1.mono HB0.out.1.size)
  have m0 : w1.cell? ⟨w.heap.size, 0, none⟩ = some (.int .i64 major) := (hb1.cell (p := ⟨w.heap.size, 0, none⟩) (block_lt_of_cell HB0.out.2.1)).trans HB0.out.2.1
  have m1 : w1.cell? ⟨w.heap.size, 1, none⟩ = some (.slice (some ⟨g, 0, none⟩) len cap) := (hb1.cell (p := ⟨w.heap.size, 1, none⟩) (block_lt_of_cell HB0.out.2.2)).trans HB0.out.2.2
  clear hb1 HB0 HR0 HR
  cases hf : frameB major len Z with
  | false =>
    have HF : Hid (frameB major len Z = false) := hf
    clear hf
    go_wp2
    go_ret
    refine ⟨?_, HB1.out⟩
    rw [textB, HF.out]
    rfl
  | true =>
    have HF : Hid (1 ≤ major ∧ major ≤ 1000 ∧ len ≤ 20 ∧ (∀ i, i < len → winAt major Z i = true) ∧ frameB major len Z = true) := ⟨(frameB_out hf).1, (frameB_out hf).2.1, (frameB_out hf).2.2.1, (frameB_out hf).2.2.2, hf⟩
    clear hf
    go_wp2_with fail
    refine (l1Dec_any major (by have := HF.out; omega) (by have := HF.out; omega) w1).mono ?_
    rintro e w2 ⟨rfl, hb2⟩
    have HR2 : Hid (WinsAt w2 g len Z) := HR1.out.of_block (hb2.block g HR1.out.lt)
    have HB2 : Hid (Below w.heap.size w w2 ∧ w2.cell? ⟨w.heap.size, 0, none⟩ = some (.int .i64 major) ∧ w2.cell? ⟨w.heap.size, 1, none⟩ = some (.slice (some ⟨g, 0, none⟩) len cap)) := ⟨HB1.out.trans (hb2.mono HB1.out.size), (hb2.cell (p := ⟨w.heap.size, 0, none⟩) (block_lt_of_cell m0)).trans m0, (hb2.cell (p := ⟨w.heap.size, 1, none⟩) (block_lt_of_cell m1)).trans m1⟩
    clear hb2 m0 m1 HR1 HB1
    go_wp2_with fail
    go_loopw [3, 4] (fun t i wr => ∃ k : Nat, k ≤ len ∧ i = .int .i64 k ∧ t = .string (textTo major Z k) ∧ Hid (Two w w2 wr)) (fun _ i _ => len - (intOf i).toNat)
    case atStart => exact ⟨0, Nat.zero_le _, rfl, rfl, ⟨HB2.out.1, Below.refl _ _⟩⟩
    case round =>
      obtain ⟨k, hk, rfl, rfl, HW⟩ := hrel
      have m1 : wr.cell? ⟨w.heap.size, 1, none⟩ = some (.slice (some ⟨g, 0, none⟩) len cap) := (HW.out.2.cell (p := ⟨w.heap.size, 1, none⟩) (block_lt_of_cell HB2.out.2.2)).trans HB2.out.2.2
      by_cases hlt : k < len
      · have hra : WinsAt wr g len Z := HR2.out.of_block (HW.out.2.block g HR2.out.lt)
        have hgl := hra.lt
        have c0 : wr.cell? ⟨g, k * 3, none⟩ = some (.int .i64 (Z (k * 3))) := hra.cell (by omega)
        have c1 : wr.cell? ⟨g, k * 3 + 1, none⟩ = some (.int .i64 (Z (k * 3 + 1))) := hra.cell (by omega)
        have c2 : wr.cell? ⟨g, k * 3 + 2, none⟩ = some (.int .i64 (Z (k * 3 + 2))) := hra.cell (by omega)
        clear hra
        have HT : Hid (textTo major Z (k + 1) = winText (textTo major Z k) (Z (k * 3)) (Z (k * 3 + 1)) (Z (k * 3 + 2))) := rfl
        have hts := textTo_size HF.out.1 HF.out.2.1 k (fun i hi => HF.out.2.2.2.1 i (by omega))
        have hw := winB_out (HF.out.2.2.2.1 k hlt)
        have he := (endAt_nonneg k (fun i hi => HF.out.2.2.2.1 i (by omega))).1
        have HWN : Hid (0 ≤ Z (k * 3) ∧ Z (k * 3) ≤ 1000 ∧ 1 ≤ Z (k * 3 + 1) ∧ Z (k * 3 + 1) ≤ 1000 ∧ 1 ≤ Z (k * 3 + 2) ∧ Z (k * 3 + 2) ≤ 6) := by have := HF.out; exact ⟨by omega, by omega, by omega, by omega, by omega, by omega⟩
        clear hw he
        generalize Z (k * 3) = a at *
        generalize Z (k * 3 + 1) = l at *
        generalize Z (k * 3 + 2) = p at *
        have s1 := decB_size (n := a) (by have := HWN.out; omega) (by have := HWN.out; omega)
        have s2 := decB_size (n := l) (by have := HWN.out; omega) (by have := HWN.out; omega)
        have s3 := decB_size (n := p) (by have := HWN.out; omega) (by have := HWN.out; omega)
        have hlen := HF.out.2.2.1
        generalize textTo major Z k = t at *
        go_wp2_with fail
        have b0 : (wr.alloc (.cells #[.int .i64 a, .int .i64 l, .int .i64 p] 56)).cell? ⟨wr.heap.size, 0, none⟩ = some (.int .i64 a) := by simp
        have b1 : (wr.alloc (.cells #[.int .i64 a, .int .i64 l, .int .i64 p] 56)).cell? ⟨wr.heap.size, 1, none⟩ = some (.int .i64 l) := by simp
        have b2 : (wr.alloc (.cells #[.int .i64 a, .int .i64 l, .int .i64 p] 56)).cell? ⟨wr.heap.size, 2, none⟩ = some (.int .i64 p) := by simp
        have hX : wr.heap.size < (wr.alloc (.cells #[.int .i64 a, .int .i64 l, .int .i64 p] 56)).heap.size := by simp
        have HWA : Two w w2 (wr.alloc (.cells #[.int .i64 a, .int .i64 l, .int .i64 p] 56)) := HW.out.alloc _
        clear c0 c1 c2 HW m1 hgl
        generalize wr.alloc (.cells #[.int .i64 a, .int .i64 l, .int .i64 p] 56) = WA at *
        generalize wr.heap.size = g0 at *
        have q0 : ¬ 9223372036854775807 < t.size + 1 := by omega
        have q1 : ¬ 9223372036854775807 < t.size + 1 + (decB a).size := by omega
        have q2 : ¬ 9223372036854775807 < t.size + 1 + (decB a).size + 1 := by omega
        have q3 : ¬ 9223372036854775807 < t.size + 1 + (decB a).size + 1 + (decB l).size := by omega
        have q4 : ¬ 9223372036854775807 < t.size + 1 + (decB a).size + 1 + (decB l).size + 1 := by omega
        have q5 : ¬ 9223372036854775807 < t.size + 1 + (decB a).size + 1 + (decB l).size + 1 + (decB p).size := by omega
        clear s1 s2 s3 hts
        go_region_held3 (fun w' => w'.cell? ⟨g0, 0, none⟩ = some (.int .i64 a) ∧ w'.cell? ⟨g0, 1, none⟩ = some (.int .i64 l) ∧ w'.cell? ⟨g0, 2, none⟩ = some (.int .i64 p) ∧ g0 < w'.heap.size ∧ Two w w2 w') (first | exact ⟨b0, b1, b2, hX, HWA.drew⟩ | (have hH := ‹_ ∧ _ ∧ _ ∧ _ ∧ Two w w2 _›; exact ⟨(hb1.cell (p := ⟨g0, 0, none⟩) hH.2.2.2.1).trans hH.1, (hb1.cell (p := ⟨g0, 1, none⟩) hH.2.2.2.1).trans hH.2.1, (hb1.cell (p := ⟨g0, 2, none⟩) hH.2.2.2.1).trans hH.2.2.1, Nat.lt_of_lt_of_le hH.2.2.2.1 hb1.size, hH.2.2.2.2.trans hb1⟩) | exact ⟨(hb1.cell (p := ⟨g0, 0, none⟩) hX).trans b0, (hb1.cell (p := ⟨g0, 1, none⟩) hX).trans b1, (hb1.cell (p := ⟨g0, 2, none⟩) hX).trans b2, Nat.lt_of_lt_of_le hX hb1.size, HWA.drew.trans hb1⟩) (first | (go_at_call 40; refine (l1Dec_any _ (by have := HWN.out; omega) (by have := HWN.out; omega) _).mono ?_; rintro e w1 ⟨rfl, hb1⟩))
        rename_i hHeld
        have HT2 : Hid (Two w w2 w1) := hHeld.2.2.2.2
        clear hHeld q0 q1 q2 q3 q4 q5 b0 b1 b2
        go_wp2
        go_roundw
        case rel => exact ⟨k + 1, by omega, by go_num, by rw [HT.out]; rfl, HT2⟩
        case measure => simp [intOf]; omega
      · go_wp2
        go_ret
        have e : k = len := by omega
        subst e
        refine ⟨?_, HW.out.1⟩
        rw [textB, if_pos HF.out.2.2.2.2]
        rfl

end Go.Proofs.YtlaeilcipibelaaDoor

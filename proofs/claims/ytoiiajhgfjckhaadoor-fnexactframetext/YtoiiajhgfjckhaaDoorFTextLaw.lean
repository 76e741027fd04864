/- The exact law of FrameText: the walk through the law. -/
import Derived.Test.YtoiiajhgfjckhaaDoorFTextImpl
import Derived.Test.YtoiiajhgfjckhaaDoorEq
namespace Go.Proofs.YtoiiajhgfjckhaaDoor
open Go.RowKit

set_option maxHeartbeats 1000000 in
theorem frameTextLaw_big (major : Int) (a : Option Addr) (len cap : Nat) (w : World) (hl : len ≤ maxLen) (h : 1048576 < len) :
    Calls Tryd.prog 4 #[.agg #[.int .i64 major, .slice a len cap]] w fun e w' => e = .returned (.bool true) ∧ Below w.heap.size w w' := by
  have e1 : szOf 1048576 len = -1 := szOf_neg (by omega)
  go_enter Tryd.func4, Tryd.ntmps4
  go_wp2_with fail
  refine (szFrame_any major a len cap 1048576 _ hl (by omega) (by omega)).mono ?_
  rintro e w1 ⟨rfl, hb1⟩
  rw [e1]
  have z1 := hb1.size
  go_wp2
  go_ret
  exact ⟨rfl, ((Below.refl _ _).alloc (Nat.le_refl _) _).trans (hb1.mono (by simp))⟩

set_option maxHeartbeats 1000000 in
theorem frameTextLaw_any (major : Int) (a : Option Addr) (len cap : Nat) (Z : Nat → Int) (w : World) (hl : len ≤ 1048576) (hs : Src w a len Z) (hp : Pow w) (hz : ∀ j, -9223372036854775808 ≤ Z j ∧ Z j ≤ 9223372036854775807) :
    Calls Tryd.prog 4 #[.agg #[.int .i64 major, .slice a len cap]] w fun e w' => e = .returned (.bool true) ∧ Below w.heap.size w w' := by
  have e1 : szOf 1048576 len = 1048576 - len := szOf_pos (by omega)
  have e2 : ¬ (1048576 : Int) - len < 0 := by omega
  have HP : Hid (Pow w) := hp
  clear hp
  have HS : Hid (Src w a len Z) := hs
  have HZ : Hid (∀ j, -9223372036854775808 ≤ Z j ∧ Z j ≤ 9223372036854775807) := hz
  clear hs hz
  go_enter Tryd.func4, Tryd.ntmps4
  go_wp2_with fail
  refine (szFrame_any major a len cap 1048576 _ (by unfold maxLen; omega) (by omega) (by omega)).mono ?_
  rintro e w1 ⟨rfl, hb1⟩
  rw [e1]
  have B1 : Below w.heap.size w w1 := ((Below.refl _ _).alloc (Nat.le_refl _) _).trans (hb1.mono (by simp))
  have z1 : w.heap.size < w1.heap.size := by have := hb1.size; simp only [World.size_alloc] at this; omega
  have c0 : w1.cell? ⟨w.heap.size, 0, none⟩ = some (.int .i64 major) := (hb1.cell (p := ⟨w.heap.size, 0, none⟩) (by simp)).trans (by simp)
  have c1 : w1.cell? ⟨w.heap.size, 1, none⟩ = some (.slice a len cap) := (hb1.cell (p := ⟨w.heap.size, 1, none⟩) (by simp)).trans (by simp)
  clear hb1
  have HB1 : Hid (Below w.heap.size w w1) := B1
  clear B1
  go_wp2_with fail
  refine (toFrame_any major a len cap Z _ hl (HS.out.below HB1.out)).mono ?_
  rintro e w2 ⟨g2, rfl, hg2, hr2, hb2⟩
  have HR2 : Hid (w2.rowIs g2 56 (len * 3) (fun j => .int .i64 (Z j))) := hr2
  have z2 := hb2.size
  have d0 := (hb2.cell (p := ⟨w.heap.size, 0, none⟩) z1).trans c0
  have d1 := (hb2.cell (p := ⟨w.heap.size, 1, none⟩) z1).trans c1
  have HB2 : Hid (Below w.heap.size w w2) := HB1.out.trans (hb2.mono (by omega))
  clear c0 c1 hr2 hb2
  go_wp2_with fail
  refine (specFrameText_any major g2 len len Z _ hl HZ.out (rowIs_wins HR2.out)).mono ?_
  rintro e w3 ⟨rfl, hb3⟩
  have z3 := hb3.size
  have c0 := (hb3.cell (p := ⟨w.heap.size, 0, none⟩) (by simp; omega)).trans d0
  have c1 := (hb3.cell (p := ⟨w.heap.size, 1, none⟩) (by simp; omega)).trans d1
  have HB3 : Hid (Below w.heap.size w w3) := HB2.out.trans (hb3.mono (by omega))
  clear d0 d1 hb3
  obtain ⟨fb, hfb⟩ : ∃ fb, textB major len Z = fb := ⟨_, rfl⟩
  rw [hfb]
  have HF : Hid (textB major len Z = fb) := hfb
  clear hfb
  go_wp2_with fail
  refine (toFrame_any major a len cap Z _ hl (HS.out.below HB3.out)).mono ?_
  rintro e w4 ⟨g4, rfl, hg4, hr4, hb4⟩
  have z4 := hb4.size
  have d0 := (hb4.cell (p := ⟨w.heap.size, 0, none⟩) (by simp; omega)).trans c0
  have d1 := (hb4.cell (p := ⟨w.heap.size, 1, none⟩) (by simp; omega)).trans c1
  have HB4 : Hid (Below w.heap.size w w4) := HB3.out.trans (hb4.mono (by omega))
  have HR4 : Hid (w4.rowIs g4 56 (len * 3) (fun j => .int .i64 (Z j))) := hr4
  clear c0 c1 hb4 hr4
  go_wp2_with fail
  refine (implFrameText_any major g4 len len Z _ hl HZ.out (rowIs_wins (HR4.out.alloc _)) (HP.out.below (HB4.out.alloc (by omega) _) (Nat.le_refl _))).mono ?_
  rintro e w5 ⟨rfl, hb5⟩
  rw [HF.out]
  have z5 := hb5.size
  simp only [World.size_alloc] at z5
  have x0 : w.heap.size < w5.heap.size := by omega
  have c0 : w5.cell? ⟨w.heap.size, 0, none⟩ = some (.int .i64 major) := (hb5.cell (p := ⟨w.heap.size, 0, none⟩) (by simp; omega)).trans (by rw [World.cell?_alloc_lt _ _ _ (by simp; omega)]; exact d0)
  have c1 : w5.cell? ⟨w.heap.size, 1, none⟩ = some (.slice a len cap) := (hb5.cell (p := ⟨w.heap.size, 1, none⟩) (by simp; omega)).trans (by rw [World.cell?_alloc_lt _ _ _ (by simp; omega)]; exact d1)
  have c2 : w5.cell? ⟨w4.heap.size, 0, none⟩ = some (.int .i64 major) := (hb5.cell (p := ⟨w4.heap.size, 0, none⟩) (by simp)).trans (by simp)
  have c3 : w5.cell? ⟨w4.heap.size, 1, none⟩ = some (.slice (some ⟨g4, 0, none⟩) len len) := (hb5.cell (p := ⟨w4.heap.size, 1, none⟩) (by simp)).trans (by simp)
  have HB5 : Hid (Below w.heap.size w w5) := (HB4.out.alloc (by omega) _).trans (hb5.mono (by simp; omega))
  have HR5 : Hid (w5.rowIs g4 56 (len * 3) (fun j => .int .i64 (Z j))) := (HR4.out.alloc _).of_block (hb5.block _ (by have := HR4.out.lt; simp; omega))
  have x4 : w4.heap.size < w5.heap.size := by omega
  clear d0 d1 hb5
  have hne : (fb.toList == fb.toList) = true := by simp
  go_wp2_with fail
  go_region_held3 (fun w' => w'.cell? ⟨w.heap.size, 0, none⟩ = some (.int .i64 major) ∧ w'.cell? ⟨w.heap.size, 1, none⟩ = some (.slice a len cap) ∧ w'.cell? ⟨w4.heap.size, 0, none⟩ = some (.int .i64 major) ∧ w'.cell? ⟨w4.heap.size, 1, none⟩ = some (.slice (some ⟨g4, 0, none⟩) len len)) (first | go_keep | exact ⟨(hb6.cell (p := ⟨w.heap.size, 0, none⟩) x0).trans c0, (hb6.cell (p := ⟨w.heap.size, 1, none⟩) x0).trans c1, (hb6.cell (p := ⟨w4.heap.size, 0, none⟩) x4).trans c2, (hb6.cell (p := ⟨w4.heap.size, 1, none⟩) x4).trans c3⟩ | exact ⟨(hb7.cell (p := ⟨w.heap.size, 0, none⟩) (Nat.lt_of_lt_of_le x0 z6)).trans ((hb6.cell (p := ⟨w.heap.size, 0, none⟩) x0).trans c0), (hb7.cell (p := ⟨w.heap.size, 1, none⟩) (Nat.lt_of_lt_of_le x0 z6)).trans ((hb6.cell (p := ⟨w.heap.size, 1, none⟩) x0).trans c1), (hb7.cell (p := ⟨w4.heap.size, 0, none⟩) (Nat.lt_of_lt_of_le x4 z6)).trans ((hb6.cell (p := ⟨w4.heap.size, 0, none⟩) x4).trans c2), (hb7.cell (p := ⟨w4.heap.size, 1, none⟩) (Nat.lt_of_lt_of_le x4 z6)).trans ((hb6.cell (p := ⟨w4.heap.size, 1, none⟩) x4).trans c3)⟩) (first | (go_at_call 18; refine (toFrame_any major a len cap Z _ hl (HS.out.below HB5.out.drew)).mono ?_; rintro e w6 ⟨g6, rfl, hg6, hr6, hb6⟩; have z6 : w5.heap.size ≤ w6.heap.size := hb6.size) | (go_at_call 19; refine (eqFrame_any major g4 g6 len Z _ hl (HR5.out.of_block (hb6.block g4 HR5.out.lt)) hr6).mono ?_; rintro e w7 ⟨rfl, hb7⟩))
  clear c0 c1 c2 c3
  go_wp2
  go_ret
  exact ⟨rfl, (HB5.out.drew.trans (hb6.mono (Nat.le_of_lt x0))).trans (hb7.mono (by omega))⟩

end Go.Proofs.YtoiiajhgfjckhaaDoor

/- What the proof leans on, part 27: MkOp, MkBoard, MkStr, MkSem, MkN. -/
import Derived.Test.YtkbcplnlehdjfaaGreatOwnR1
import Derived.Test.YtkbcplnlehdjfaaGreatOwnR24

namespace Go.Proofs.YtkbcplnlehdjfaaGreat
open Go.RowKit
attribute [local go_sem ↓] Go.wp_at_zero Go.wp_at_succ
/-- The mark of a thing. -/
def mkOp (k : Int) (_ : OpD) : OpD := (k, k + 1, k + 1 + 1, markB (k + 1 + 1 + 1))
set_option maxRecDepth 100000 in
set_option maxHeartbeats 4000000 in
theorem markSOp_l (a : Option Addr) (l : List OpD) (cap : Nat) (k : Int) (w : World) (base : Nat) (hl : l.length ≤ 1048576) (h0 : 1 ≤ k) (h1 : k + (cntL (fun _ => 4) l : Nat) ≤ 90000000) (ho : w.ownsRow base 134 4 (.slice a l.length cap) l.length (opK.flat l)) :
  Calls Tryz.prog 65 #[.slice a l.length cap, .int .i64 k] w fun e w' => e = .returned (.int .i64 (k + (cntL (fun _ => 4) l : Nat))) ∧ w'.ownsRow base 134 4 (.slice a l.length cap) l.length (opK.flat (markL mkOp (fun _ => 4) k l)) ∧ KeptBut w w' (blk a) := by
 by_cases hz : l.length = 0
 ·have hl0 : l = [] := List.eq_nil_of_length_eq_zero hz
  subst hl0
  have HO : Hid (w.ownsRow base 134 4 (.slice a 0 cap) 0 (opK.flat [])) := ho
  clear ho
  go_enter Tryz.func65, Tryz.ntmps65
  go_wp2_with fail
  go_loopw [1, 5] (fun q i wr => q = .int .i64 k ∧ i = .int .i64 0 ∧ wr = w) (fun _ _ _ => 0)
  case atStart => exact ⟨rfl, rfl, rfl⟩
  case round =>
   obtain ⟨rfl, rfl, rfl⟩ := hrel
   go_wp2
   go_ret
   exact ⟨ret_int (by simp [cntL]), HO.out, KeptBut.refl _ _⟩
 obtain ⟨g, rfl, hrow⟩ := RowAt.of_owns (K := opK) ho hz
 have HR : Hid (RowAt opK 134 w base g cap l) := hrow
 have HB : Hid (k + (cntL (fun _ : OpD => 4) l : Nat) ≤ 90000000) := h1
 clear ho hrow h1 hz
 go_enter Tryz.func65, Tryz.ntmps65
 go_wp2_with fail
 go_loopw [1, 5] (fun q i wr => ∃ (j : Nat) (m : Int), j ≤ l.length ∧ i = .int .i64 j ∧ q = .int .i64 m ∧ 1 ≤ m ∧ m ≤ 90000000 ∧ Hid (m = k + (cntL (fun _ : OpD => 4) (l.take j) : Nat) ∧ RowAt opK 134 wr base g cap (markL mkOp (fun _ => 4) k (l.take j) ++ l.drop j) ∧ KeptBut w wr [g])) (fun _ i _ => l.length - (intOf i).toNat)
 case atStart => exact ⟨0, k, Nat.zero_le _, rfl, rfl, h0, by have := HB.out; omega, ⟨by simp [cntL], HR.out, KeptBut.refl _ _⟩⟩
 case round =>
  clear HR
  obtain ⟨j, m, hj, rfl, rfl, m0, m1, HA⟩ := hrel
  by_cases hlt : j < l.length
  ·have i0 : (0 : Int) ≤ (j : Int) := by omega
   have i1 : (j : Int) < (l.length : Int) := by omega
   obtain ⟨x, hx⟩ : ∃ x, l[j]? = some x := ⟨_, List.getElem?_eq_getElem hlt⟩
   have hdr : l.drop j = x :: l.drop (j + 1) := drop_at hx
   have hcn := cntL_take_lt (c := fun _ : OpD => 4) hx
   have hup := cntL_up (c := fun _ : OpD => 4) hx
   have HX : Hid (l[j]? = some x ∧ m + 4 ≤ 90000000 ∧ m + 4 = k + (cntL (fun _ : OpD => 4) (l.take (j + 1)) : Nat)) := ⟨hx, by have := HB.out; have := HA.out.1; omega, by have := HA.out.1; omega⟩
   have HW : Hid (RowAt opK 134 wr base g cap (markL mkOp (fun _ => 4) k (l.take j) ++ x :: l.drop (j + 1)) ∧ (markL mkOp (fun _ => 4) k (l.take j)).length = j) := ⟨by have := HA.out.2.1; rwa [hdr] at this, by rw [markL_length, List.length_take]; omega⟩
   clear hx hdr hcn hup
   have m2 : m + 4 ≤ 90000000 := HX.out.2.1
   have hgl : g < wr.heap.size := HW.out.1.lt
   have q0 := RowAt.at_mid HW.out.1 HW.out.2 (r := 0) (by decide : 0 < opK.n)
   obtain ⟨⟨u0, c0⟩, f0⟩ : (∃ u, wr.cell? ⟨g, j * 4, none⟩ = some u) ∧ wr.frozen? ⟨g, j * 4, none⟩ = false := q0
   have q1 := RowAt.at_mid HW.out.1 HW.out.2 (r := 1) (by decide : 1 < opK.n)
   obtain ⟨⟨u1, c1⟩, f1⟩ : (∃ u, wr.cell? ⟨g, j * 4 + 1, none⟩ = some u) ∧ wr.frozen? ⟨g, j * 4 + 1, none⟩ = false := q1
   have q2 := RowAt.at_mid HW.out.1 HW.out.2 (r := 2) (by decide : 2 < opK.n)
   obtain ⟨⟨u2, c2⟩, f2⟩ : (∃ u, wr.cell? ⟨g, j * 4 + 2, none⟩ = some u) ∧ wr.frozen? ⟨g, j * 4 + 2, none⟩ = false := q2
   have h5 := RowAt.part (K := opK) (x := (x.1, x.2.1, x.2.2.1, x.2.2.2)) (y := (m, m + 1, m + 1 + 1, x.2.2.2)) (j := 0) (vs := [.int .i64 (m), .int .i64 (m + 1), .int .i64 (m + 1 + 1)]) HW.out.1 (by show 0 + 3 ≤ 4; omega) (fun r hr => by match r, hr with | 0, _ => rfl | 1, _ => rfl | 2, _ => rfl) (fun r hr hn => by match r, hr, hn with | 0, _, hn => exact absurd ⟨by omega, by show 0 < 0 + 3; omega⟩ hn | 1, _, hn => exact absurd ⟨by omega, by show 1 < 0 + 3; omega⟩ hn | 2, _, hn => exact absurd ⟨by omega, by show 2 < 0 + 3; omega⟩ hn | 3, _, _ => rfl )
   rw [HW.out.2, show opK.n = 4 from rfl] at h5
   simp only [setAllW, Nat.add_assoc, Nat.reduceAdd, Nat.add_zero] at h5
   have HS0 : Hid (RowAt opK 134 (((wr.setCell ⟨g, j * 4, none⟩ (.int .i64 (m))).setCell ⟨g, j * 4 + 1, none⟩ (.int .i64 (m + 1))).setCell ⟨g, j * 4 + 2, none⟩ (.int .i64 (m + 1 + 1))) base g cap (markL mkOp (fun _ => 4) k (l.take j) ++ (m, m + 1, m + 1 + 1, x.2.2.2) :: l.drop (j + 1)) ∧ (markL mkOp (fun _ => 4) k (l.take j)).length = j) := ⟨h5, HW.out.2⟩
   have h6 : KeptBut w (setAllW wr g (j * 4) [.int .i64 (m), .int .i64 (m + 1), .int .i64 (m + 1 + 1)]) [g] := HA.out.2.2.trans (KeptBut.set _ (by simp))
   simp only [setAllW, Nat.add_assoc, Nat.reduceAdd] at h6
   have HS0K : Hid (KeptBut w (((wr.setCell ⟨g, j * 4, none⟩ (.int .i64 (m))).setCell ⟨g, j * 4 + 1, none⟩ (.int .i64 (m + 1))).setCell ⟨g, j * 4 + 2, none⟩ (.int .i64 (m + 1 + 1))) [g]) := h6
   clear h6
   clear h5
   go_wp2_with fail
   refine (markText_any (m + 1 + 1 + 1) (by omega) (by omega) _).mono ?_
   rintro e v3 ⟨rfl, hb3⟩
   have HV3 : Hid (RowAt opK 134 v3 base g cap (markL mkOp (fun _ => 4) k (l.take j) ++ (m, m + 1, m + 1 + 1, x.2.2.2) :: l.drop (j + 1)) ∧ (markL mkOp (fun _ => 4) k (l.take j)).length = j) := ⟨HS0.out.1.same (hb3.block g HS0.out.1.lt), HS0.out.2⟩
   have HV3K : Hid (KeptBut w v3 [g]) := HS0K.out.trans (KeptBut.of_below hb3)
   clear hb3
   have q3 := RowAt.at_mid HV3.out.1 HV3.out.2 (r := 3) (by decide : 3 < opK.n)
   obtain ⟨⟨u3, c3⟩, f3⟩ : (∃ u, v3.cell? ⟨g, j * 4 + 3, none⟩ = some u) ∧ v3.frozen? ⟨g, j * 4 + 3, none⟩ = false := q3
   have h5 := RowAt.part (K := opK) (x := (m, m + 1, m + 1 + 1, x.2.2.2)) (y := (m, m + 1, m + 1 + 1, markB (m + 1 + 1 + 1))) (j := 3) (vs := [.string (markB (m + 1 + 1 + 1))]) HV3.out.1 (by show 3 + 1 ≤ 4; omega) (fun r hr => by match r, hr with | 0, _ => rfl) (fun r hr hn => by match r, hr, hn with | 0, _, _ => rfl | 1, _, _ => rfl | 2, _, _ => rfl | 3, _, hn => exact absurd ⟨by omega, by show 3 < 3 + 1; omega⟩ hn )
   rw [HV3.out.2, show opK.n = 4 from rfl] at h5
   simp only [setAllW] at h5
   have HS1 : Hid (RowAt opK 134 (v3.setCell ⟨g, j * 4 + 3, none⟩ (.string (markB (m + 1 + 1 + 1)))) base g cap (markL mkOp (fun _ => 4) k (l.take j) ++ (m, m + 1, m + 1 + 1, markB (m + 1 + 1 + 1)) :: l.drop (j + 1)) ∧ (markL mkOp (fun _ => 4) k (l.take j)).length = j) := ⟨h5, HV3.out.2⟩
   have h6 : KeptBut w (setAllW v3 g (j * 4 + 3) [.string (markB (m + 1 + 1 + 1))]) [g] := HV3K.out.trans (KeptBut.set _ (by simp))
   simp only [setAllW] at h6
   have HS1K : Hid (KeptBut w (v3.setCell ⟨g, j * 4 + 3, none⟩ (.string (markB (m + 1 + 1 + 1)))) [g]) := h6
   clear h6
   clear h5
   have HN : Hid (RowAt opK 134 (v3.setCell ⟨g, j * 4 + 3, none⟩ (.string (markB (m + 1 + 1 + 1)))) base g cap (markL mkOp (fun _ => 4) k (l.take (j + 1)) ++ l.drop (j + 1)) ∧ KeptBut w (v3.setCell ⟨g, j * 4 + 3, none⟩ (.string (markB (m + 1 + 1 + 1)))) [g]) := ⟨by rw [markL_up HX.out.1, List.append_assoc, ← HA.out.1]; exact HS1.out.1, HS1K.out⟩
   go_wp2
   go_roundw
   case rel => exact ⟨j + 1, m + 4, by omega, by go_num, by go_num, by omega, by omega, ⟨HX.out.2.2, HN.out.1, HN.out.2⟩⟩
   case measure => simp [intOf]; omega
  ·have i1 : ¬ (j : Int) < (l.length : Int) := by omega
   have ej : j = l.length := by omega
   subst ej
   have HE : Hid (RowAt opK 134 wr base g cap (markL mkOp (fun _ => 4) k l) ∧ m = k + (cntL (fun _ : OpD => 4) l : Nat)) := by have h5 := HA.out.2.1; have h6 := HA.out.1; rw [List.take_length, List.drop_length, List.append_nil] at h5; rw [List.take_length] at h6; exact ⟨h5, h6⟩
   go_wp2
   go_ret
   refine ⟨ret_int HE.out.2, ?_, HA.out.2.2.mono (by simp [blk])⟩
   have h7 := HE.out.1.owns
   rw [markL_length] at h7
   exact h7
def HeldOp3 (w : World) (a : Option Addr) (l : List OpD) (g j : Nat) (m : Int) (w' : World) : Prop := w'.cell? ⟨g, j * 4 + 3, none⟩ = some (.string (markB m)) ∧ Hid (opK.Lies w' a l ∧ Below w.heap.size w w')
set_option maxRecDepth 100000 in
set_option maxHeartbeats 4000000 in
theorem heldSOp_l (a : Option Addr) (l : List OpD) (cap : Nat) (k : Int) (w : World) (hl : l.length ≤ 1048576) (h0 : 1 ≤ k) (h1 : k + (cntL (fun _ => 4) l : Nat) ≤ 90000000) (hr : opK.Lies w a (markL mkOp (fun _ => 4) k l)) :
  Calls Tryz.prog 145 #[.slice a l.length cap, .int .i64 k] w fun e w' => e = .returned (.int .i64 (k + (cntL (fun _ => 4) l : Nat))) ∧ Below w.heap.size w w' := by
 have HR : Hid (opK.Lies w a (markL mkOp (fun _ => 4) k l) ∧ k + (cntL (fun _ : OpD => 4) l : Nat) ≤ 90000000) := ⟨hr, h1⟩
 clear hr h1
 go_enter Tryz.func145, Tryz.ntmps145
 go_wp2_with fail
 go_loopw [1, 5] (fun q i wr => ∃ (j : Nat) (m : Int), j ≤ l.length ∧ i = .int .i64 j ∧ q = .int .i64 m ∧ 1 ≤ m ∧ m ≤ 90000000 ∧ Hid (m = k + (cntL (fun _ : OpD => 4) (l.take j) : Nat) ∧ Below w.heap.size w wr)) (fun _ i _ => l.length - (intOf i).toNat)
 case atStart => exact ⟨0, k, Nat.zero_le _, rfl, rfl, h0, by have := HR.out.2; omega, ⟨by simp [cntL], Below.refl _ _⟩⟩
 case round =>
  obtain ⟨j, m, hj, rfl, rfl, m0, m1, HA⟩ := hrel
  by_cases hlt : j < l.length
  ·have i0 : (0 : Int) ≤ (j : Int) := by omega
   have i1 : (j : Int) < (l.length : Int) := by omega
   obtain ⟨x, hx⟩ : ∃ x, l[j]? = some x := ⟨_, List.getElem?_eq_getElem hlt⟩
   have hcn := cntL_take_lt (c := fun _ : OpD => 4) hx
   have hup := cntL_up (c := fun _ : OpD => 4) hx
   have hg := markL_get (f := mkOp) (c := fun _ : OpD => 4) (k := k) hx
   rw [← HA.out.1] at hg
   obtain ⟨g, ha, hat⟩ := (HR.out.1.below HA.out.2).at hg
   have c0 : wr.cell? ⟨g, j * 4, none⟩ = some (.int .i64 (m)) := hat 0 _ rfl
   have c1 : wr.cell? ⟨g, j * 4 + 1, none⟩ = some (.int .i64 (m + 1)) := hat 1 _ rfl
   have c2 : wr.cell? ⟨g, j * 4 + 2, none⟩ = some (.int .i64 (m + 1 + 1)) := hat 2 _ rfl
   have c3 : wr.cell? ⟨g, j * 4 + 3, none⟩ = some (.string (markB (m + 1 + 1 + 1))) := hat 3 _ rfl
   have HX : Hid (m + 4 ≤ 90000000 ∧ m + 4 = k + (cntL (fun _ : OpD => 4) (l.take (j + 1)) : Nat) ∧ a = some ⟨g, 0, none⟩ ∧ (markL mkOp (fun _ => 4) k l)[j]? = some (mkOp m x)) := ⟨by have := HR.out.2; have := HA.out.1; omega, by have := HA.out.1; omega, ha, hg⟩
   have m2 : m + 4 ≤ 90000000 := HX.out.1
   subst ha
   clear hx hcn hup hg hat
   go_wp2_with fail
   have HT : Hid (HeldOp3 w (some ⟨g, 0, none⟩) (markL mkOp (fun _ => 4) k l) g j (m + 1 + 1 + 1) wr.drew) := ⟨c3, (HR.out.1.below HA.out.2).below (Below.refl _ _).drew, HA.out.2.drew⟩
   clear c0 c1 c2 c3
   refine tame_region (HeldOp3 w (some ⟨g, 0, none⟩) (markL mkOp (fun _ => 4) k l) g j (m + 1 + 1 + 1)) (by kernel_rfl) HT.out ?_
   iterate 6 (refine yl (v := ?_) ?_ ?_; rotate_left; (intro w0 hS0; obtain ⟨q0, hH⟩ := hS0; go_simp; try with_reducible rfl); simp only [pt, sb, s0, s1])
   refine cl (.string (markB (m + 1 + 1 + 1))) 134 #[.int .i64 (m + 1 + 1 + 1)] ?_ ?_ ?_
   ·intro w0 hS0
    obtain ⟨q0, hH⟩ := hS0
    go_simp
    try with_reducible rfl
   ·intro w0 hS0
    refine (markText_any (m + 1 + 1 + 1) (by omega) (by omega) w0).mono ?_
    rintro e w2 ⟨rfl, hb2⟩
    exact ⟨rfl, (World.cell?_of_block (hb2.block g (block_lt_of_cell hS0.1))).trans hS0.1, hS0.2.out.1.below hb2, hS0.2.out.2.trans (hb2.mono hS0.2.out.2.size)⟩
   simp only [pt, sb, s0, s1]
   (refine yl (v := ?_) ?_ ?_; rotate_left; (intro w0 hS0; obtain ⟨q0, hH⟩ := hS0; go_simp; try with_reducible rfl); simp only [pt, sb, s0, s1])
   refine tame_done (by kernel_rfl) ?_ _
   intro w1 hS1
   have HZ : Hid (Below w.heap.size w w1) := hS1.2.out.2
   clear hS1 HT
   go_wp2
   go_roundw
   case rel => exact ⟨j + 1, m + 4, by omega, by go_num, by go_num, by omega, by omega, ⟨HX.out.2.1, HZ.out⟩⟩
   case measure => simp [intOf]; omega
  ·have i1 : ¬ (j : Int) < (l.length : Int) := by omega
   have HE : Hid (m = k + (cntL (fun _ : OpD => 4) l : Nat)) := by have h6 := HA.out.1; rw [List.take_of_length_le (by omega)] at h6; exact h6
   go_wp2
   go_ret
   exact ⟨ret_int HE.out, HA.out.2⟩
end Go.Proofs.YtkbcplnlehdjfaaGreat

/- Lists of the kind Board, marked and read again. (Made by mkmark.py.) -/
namespace Go.Proofs.YtkbcplnlehdjfaaGreat
open Go.RowKit
attribute [local go_sem ↓] Go.wp_at_zero Go.wp_at_succ
/-- The mark of a thing. -/
def mkBoard (k : Int) (_ : BoardD) : BoardD := ⟨k, (k + 1) % 3 == 0, markB (k + 1 + 1)⟩
set_option maxRecDepth 100000 in
set_option maxHeartbeats 4000000 in
theorem markSBoard_l (a : Option Addr) (l : List BoardD) (cap : Nat) (k : Int) (w : World) (base : Nat) (hl : l.length ≤ 1048576) (h0 : 1 ≤ k) (h1 : k + (cntL (fun _ => 3) l : Nat) ≤ 90000000) (ho : w.ownsRow base 141 3 (.slice a l.length cap) l.length (boardK.flat l)) :
  Calls Tryz.prog 131 #[.slice a l.length cap, .int .i64 k] w fun e w' => e = .returned (.int .i64 (k + (cntL (fun _ => 3) l : Nat))) ∧ w'.ownsRow base 141 3 (.slice a l.length cap) l.length (boardK.flat (markL mkBoard (fun _ => 3) k l)) ∧ KeptBut w w' (blk a) := by
 by_cases hz : l.length = 0
 ·have hl0 : l = [] := List.eq_nil_of_length_eq_zero hz
  subst hl0
  have HO : Hid (w.ownsRow base 141 3 (.slice a 0 cap) 0 (boardK.flat [])) := ho
  clear ho
  go_enter Tryz.func131, Tryz.ntmps131
  go_wp2_with fail
  go_loopw [1, 5] (fun q i wr => q = .int .i64 k ∧ i = .int .i64 0 ∧ wr = w) (fun _ _ _ => 0)
  case atStart => exact ⟨rfl, rfl, rfl⟩
  case round =>
   obtain ⟨rfl, rfl, rfl⟩ := hrel
   go_wp2
   go_ret
   exact ⟨ret_int (by simp [cntL]), HO.out, KeptBut.refl _ _⟩
 obtain ⟨g, rfl, hrow⟩ := RowAt.of_owns (K := boardK) ho hz
 have HR : Hid (RowAt boardK 141 w base g cap l) := hrow
 have HB : Hid (k + (cntL (fun _ : BoardD => 3) l : Nat) ≤ 90000000) := h1
 clear ho hrow h1 hz
 go_enter Tryz.func131, Tryz.ntmps131
 go_wp2_with fail
 go_loopw [1, 5] (fun q i wr => ∃ (j : Nat) (m : Int), j ≤ l.length ∧ i = .int .i64 j ∧ q = .int .i64 m ∧ 1 ≤ m ∧ m ≤ 90000000 ∧ Hid (m = k + (cntL (fun _ : BoardD => 3) (l.take j) : Nat) ∧ RowAt boardK 141 wr base g cap (markL mkBoard (fun _ => 3) k (l.take j) ++ l.drop j) ∧ KeptBut w wr [g])) (fun _ i _ => l.length - (intOf i).toNat)
 case atStart => exact ⟨0, k, Nat.zero_le _, rfl, rfl, h0, by have := HB.out; omega, ⟨by simp [cntL], HR.out, KeptBut.refl _ _⟩⟩
 case round =>
  clear HR
  obtain ⟨j, m, hj, rfl, rfl, m0, m1, HA⟩ := hrel
  by_cases hlt : j < l.length
  ·have i0 : (0 : Int) ≤ (j : Int) := by omega
   have i1 : (j : Int) < (l.length : Int) := by omega
   obtain ⟨x, hx⟩ : ∃ x, l[j]? = some x := ⟨_, List.getElem?_eq_getElem hlt⟩
   have hdr : l.drop j = x :: l.drop (j + 1) := drop_at hx
   have hcn := cntL_take_lt (c := fun _ : BoardD => 3) hx
   have hup := cntL_up (c := fun _ : BoardD => 3) hx
   have HX : Hid (l[j]? = some x ∧ m + 3 ≤ 90000000 ∧ m + 3 = k + (cntL (fun _ : BoardD => 3) (l.take (j + 1)) : Nat)) := ⟨hx, by have := HB.out; have := HA.out.1; omega, by have := HA.out.1; omega⟩
   have HW : Hid (RowAt boardK 141 wr base g cap (markL mkBoard (fun _ => 3) k (l.take j) ++ x :: l.drop (j + 1)) ∧ (markL mkBoard (fun _ => 3) k (l.take j)).length = j) := ⟨by have := HA.out.2.1; rwa [hdr] at this, by rw [markL_length, List.length_take]; omega⟩
   clear hx hdr hcn hup
   have m2 : m + 3 ≤ 90000000 := HX.out.2.1
   have hgl : g < wr.heap.size := HW.out.1.lt
   have q0 := RowAt.at_mid HW.out.1 HW.out.2 (r := 0) (by decide : 0 < boardK.n)
   obtain ⟨⟨u0, c0⟩, f0⟩ : (∃ u, wr.cell? ⟨g, j * 3, none⟩ = some u) ∧ wr.frozen? ⟨g, j * 3, none⟩ = false := q0
   have q1 := RowAt.at_mid HW.out.1 HW.out.2 (r := 1) (by decide : 1 < boardK.n)
   obtain ⟨⟨u1, c1⟩, f1⟩ : (∃ u, wr.cell? ⟨g, j * 3 + 1, none⟩ = some u) ∧ wr.frozen? ⟨g, j * 3 + 1, none⟩ = false := q1
   have h5 := RowAt.part (K := boardK) (x := (⟨x.id, x.shown, x.text⟩ : BoardD)) (y := (⟨m, (m + 1) % 3 == 0, x.text⟩ : BoardD)) (j := 0) (vs := [.int .i64 (m), .bool ((m + 1) % 3 == 0)]) HW.out.1 (by show 0 + 2 ≤ 3; omega) (fun r hr => by match r, hr with | 0, _ => rfl | 1, _ => rfl) (fun r hr hn => by match r, hr, hn with | 0, _, hn => exact absurd ⟨by omega, by show 0 < 0 + 2; omega⟩ hn | 1, _, hn => exact absurd ⟨by omega, by show 1 < 0 + 2; omega⟩ hn | 2, _, _ => rfl )
   rw [HW.out.2, show boardK.n = 3 from rfl] at h5
   simp only [setAllW, Nat.add_zero] at h5
   have HS0 : Hid (RowAt boardK 141 ((wr.setCell ⟨g, j * 3, none⟩ (.int .i64 (m))).setCell ⟨g, j * 3 + 1, none⟩ (.bool ((m + 1) % 3 == 0))) base g cap (markL mkBoard (fun _ => 3) k (l.take j) ++ (⟨m, (m + 1) % 3 == 0, x.text⟩ : BoardD) :: l.drop (j + 1)) ∧ (markL mkBoard (fun _ => 3) k (l.take j)).length = j) := ⟨h5, HW.out.2⟩
   have h6 : KeptBut w (setAllW wr g (j * 3) [.int .i64 (m), .bool ((m + 1) % 3 == 0)]) [g] := HA.out.2.2.trans (KeptBut.set _ (by simp))
   simp only [setAllW] at h6
   have HS0K : Hid (KeptBut w ((wr.setCell ⟨g, j * 3, none⟩ (.int .i64 (m))).setCell ⟨g, j * 3 + 1, none⟩ (.bool ((m + 1) % 3 == 0))) [g]) := h6
   clear h6
   clear h5
   go_wp2_with fail
   refine (markText_any (m + 1 + 1) (by omega) (by omega) _).mono ?_
   rintro e v2 ⟨rfl, hb2⟩
   have HV2 : Hid (RowAt boardK 141 v2 base g cap (markL mkBoard (fun _ => 3) k (l.take j) ++ (⟨m, (m + 1) % 3 == 0, x.text⟩ : BoardD) :: l.drop (j + 1)) ∧ (markL mkBoard (fun _ => 3) k (l.take j)).length = j) := ⟨HS0.out.1.same (hb2.block g HS0.out.1.lt), HS0.out.2⟩
   have HV2K : Hid (KeptBut w v2 [g]) := HS0K.out.trans (KeptBut.of_below hb2)
   clear hb2
   have q2 := RowAt.at_mid HV2.out.1 HV2.out.2 (r := 2) (by decide : 2 < boardK.n)
   obtain ⟨⟨u2, c2⟩, f2⟩ : (∃ u, v2.cell? ⟨g, j * 3 + 2, none⟩ = some u) ∧ v2.frozen? ⟨g, j * 3 + 2, none⟩ = false := q2
   have h5 := RowAt.part (K := boardK) (x := (⟨m, (m + 1) % 3 == 0, x.text⟩ : BoardD)) (y := (⟨m, (m + 1) % 3 == 0, markB (m + 1 + 1)⟩ : BoardD)) (j := 2) (vs := [.string (markB (m + 1 + 1))]) HV2.out.1 (by show 2 + 1 ≤ 3; omega) (fun r hr => by match r, hr with | 0, _ => rfl) (fun r hr hn => by match r, hr, hn with | 0, _, _ => rfl | 1, _, _ => rfl | 2, _, hn => exact absurd ⟨by omega, by show 2 < 2 + 1; omega⟩ hn )
   rw [HV2.out.2, show boardK.n = 3 from rfl] at h5
   simp only [setAllW] at h5
   have HS1 : Hid (RowAt boardK 141 (v2.setCell ⟨g, j * 3 + 2, none⟩ (.string (markB (m + 1 + 1)))) base g cap (markL mkBoard (fun _ => 3) k (l.take j) ++ (⟨m, (m + 1) % 3 == 0, markB (m + 1 + 1)⟩ : BoardD) :: l.drop (j + 1)) ∧ (markL mkBoard (fun _ => 3) k (l.take j)).length = j) := ⟨h5, HV2.out.2⟩
   have h6 : KeptBut w (setAllW v2 g (j * 3 + 2) [.string (markB (m + 1 + 1))]) [g] := HV2K.out.trans (KeptBut.set _ (by simp))
   simp only [setAllW] at h6
   have HS1K : Hid (KeptBut w (v2.setCell ⟨g, j * 3 + 2, none⟩ (.string (markB (m + 1 + 1)))) [g]) := h6
   clear h6
   clear h5
   have HN : Hid (RowAt boardK 141 (v2.setCell ⟨g, j * 3 + 2, none⟩ (.string (markB (m + 1 + 1)))) base g cap (markL mkBoard (fun _ => 3) k (l.take (j + 1)) ++ l.drop (j + 1)) ∧ KeptBut w (v2.setCell ⟨g, j * 3 + 2, none⟩ (.string (markB (m + 1 + 1)))) [g]) := ⟨by rw [markL_up HX.out.1, List.append_assoc, ← HA.out.1]; exact HS1.out.1, HS1K.out⟩
   go_wp2
   go_roundw
   case rel => exact ⟨j + 1, m + 3, by omega, by go_num, by go_num, by omega, by omega, ⟨HX.out.2.2, HN.out.1, HN.out.2⟩⟩
   case measure => simp [intOf]; omega
  ·have i1 : ¬ (j : Int) < (l.length : Int) := by omega
   have ej : j = l.length := by omega
   subst ej
   have HE : Hid (RowAt boardK 141 wr base g cap (markL mkBoard (fun _ => 3) k l) ∧ m = k + (cntL (fun _ : BoardD => 3) l : Nat)) := by have h5 := HA.out.2.1; have h6 := HA.out.1; rw [List.take_length, List.drop_length, List.append_nil] at h5; rw [List.take_length] at h6; exact ⟨h5, h6⟩
   go_wp2
   go_ret
   refine ⟨ret_int HE.out.2, ?_, HA.out.2.2.mono (by simp [blk])⟩
   have h7 := HE.out.1.owns
   rw [markL_length] at h7
   exact h7
def HeldBoard2 (w : World) (a : Option Addr) (l : List BoardD) (g j : Nat) (m : Int) (w' : World) : Prop := w'.cell? ⟨g, j * 3 + 2, none⟩ = some (.string (markB m)) ∧ Hid (boardK.Lies w' a l ∧ Below w.heap.size w w')
set_option maxRecDepth 100000 in
set_option maxHeartbeats 4000000 in
theorem heldSBoard_l (a : Option Addr) (l : List BoardD) (cap : Nat) (k : Int) (w : World) (hl : l.length ≤ 1048576) (h0 : 1 ≤ k) (h1 : k + (cntL (fun _ => 3) l : Nat) ≤ 90000000) (hr : boardK.Lies w a (markL mkBoard (fun _ => 3) k l)) :
  Calls Tryz.prog 138 #[.slice a l.length cap, .int .i64 k] w fun e w' => e = .returned (.int .i64 (k + (cntL (fun _ => 3) l : Nat))) ∧ Below w.heap.size w w' := by
 have HR : Hid (boardK.Lies w a (markL mkBoard (fun _ => 3) k l) ∧ k + (cntL (fun _ : BoardD => 3) l : Nat) ≤ 90000000) := ⟨hr, h1⟩
 clear hr h1
 go_enter Tryz.func138, Tryz.ntmps138
 go_wp2_with fail
 go_loopw [1, 5] (fun q i wr => ∃ (j : Nat) (m : Int), j ≤ l.length ∧ i = .int .i64 j ∧ q = .int .i64 m ∧ 1 ≤ m ∧ m ≤ 90000000 ∧ Hid (m = k + (cntL (fun _ : BoardD => 3) (l.take j) : Nat) ∧ Below w.heap.size w wr)) (fun _ i _ => l.length - (intOf i).toNat)
 case atStart => exact ⟨0, k, Nat.zero_le _, rfl, rfl, h0, by have := HR.out.2; omega, ⟨by simp [cntL], Below.refl _ _⟩⟩
 case round =>
  obtain ⟨j, m, hj, rfl, rfl, m0, m1, HA⟩ := hrel
  by_cases hlt : j < l.length
  ·have i0 : (0 : Int) ≤ (j : Int) := by omega
   have i1 : (j : Int) < (l.length : Int) := by omega
   obtain ⟨x, hx⟩ : ∃ x, l[j]? = some x := ⟨_, List.getElem?_eq_getElem hlt⟩
   have hcn := cntL_take_lt (c := fun _ : BoardD => 3) hx
   have hup := cntL_up (c := fun _ : BoardD => 3) hx
   have hg := markL_get (f := mkBoard) (c := fun _ : BoardD => 3) (k := k) hx
   rw [← HA.out.1] at hg
   obtain ⟨g, ha, hat⟩ := (HR.out.1.below HA.out.2).at hg
   have c0 : wr.cell? ⟨g, j * 3, none⟩ = some (.int .i64 (m)) := hat 0 _ rfl
   have c1 : wr.cell? ⟨g, j * 3 + 1, none⟩ = some (.bool ((m + 1) % 3 == 0)) := hat 1 _ rfl
   have c2 : wr.cell? ⟨g, j * 3 + 2, none⟩ = some (.string (markB (m + 1 + 1))) := hat 2 _ rfl
   have HX : Hid (m + 3 ≤ 90000000 ∧ m + 3 = k + (cntL (fun _ : BoardD => 3) (l.take (j + 1)) : Nat) ∧ a = some ⟨g, 0, none⟩ ∧ (markL mkBoard (fun _ => 3) k l)[j]? = some (mkBoard m x)) := ⟨by have := HR.out.2; have := HA.out.1; omega, by have := HA.out.1; omega, ha, hg⟩
   have m2 : m + 3 ≤ 90000000 := HX.out.1
   subst ha
   clear hx hcn hup hg hat
   go_wp2_with fail
   have HT : Hid (HeldBoard2 w (some ⟨g, 0, none⟩) (markL mkBoard (fun _ => 3) k l) g j (m + 1 + 1) wr.drew) := ⟨c2, (HR.out.1.below HA.out.2).below (Below.refl _ _).drew, HA.out.2.drew⟩
   clear c0 c1 c2
   refine tame_region (HeldBoard2 w (some ⟨g, 0, none⟩) (markL mkBoard (fun _ => 3) k l) g j (m + 1 + 1)) (by kernel_rfl) HT.out ?_
   iterate 6 (refine yl (v := ?_) ?_ ?_; rotate_left; (intro w0 hS0; obtain ⟨q0, hH⟩ := hS0; go_simp; try with_reducible rfl); simp only [pt, sb, s0, s1])
   refine cl (.string (markB (m + 1 + 1))) 134 #[.int .i64 (m + 1 + 1)] ?_ ?_ ?_
   ·intro w0 hS0
    obtain ⟨q0, hH⟩ := hS0
    go_simp
    try with_reducible rfl
   ·intro w0 hS0
    refine (markText_any (m + 1 + 1) (by omega) (by omega) w0).mono ?_
    rintro e w2 ⟨rfl, hb2⟩
    exact ⟨rfl, (World.cell?_of_block (hb2.block g (block_lt_of_cell hS0.1))).trans hS0.1, hS0.2.out.1.below hb2, hS0.2.out.2.trans (hb2.mono hS0.2.out.2.size)⟩
   simp only [pt, sb, s0, s1]
   (refine yl (v := ?_) ?_ ?_; rotate_left; (intro w0 hS0; obtain ⟨q0, hH⟩ := hS0; go_simp; try with_reducible rfl); simp only [pt, sb, s0, s1])
   refine tame_done (by kernel_rfl) ?_ _
   intro w1 hS1
   have HZ : Hid (Below w.heap.size w w1) := hS1.2.out.2
   clear hS1 HT
   go_wp2
   go_roundw
   case rel => exact ⟨j + 1, m + 3, by omega, by go_num, by go_num, by omega, by omega, ⟨HX.out.2.1, HZ.out⟩⟩
   case measure => simp [intOf]; omega
  ·have i1 : ¬ (j : Int) < (l.length : Int) := by omega
   have HE : Hid (m = k + (cntL (fun _ : BoardD => 3) l : Nat)) := by have h6 := HA.out.1; rw [List.take_of_length_le (by omega)] at h6; exact h6
   go_wp2
   go_ret
   exact ⟨ret_int HE.out, HA.out.2⟩
end Go.Proofs.YtkbcplnlehdjfaaGreat

/- Lists of the kind Str, marked and read again. (Made by mkmark.py.) -/
namespace Go.Proofs.YtkbcplnlehdjfaaGreat
open Go.RowKit
attribute [local go_sem ↓] Go.wp_at_zero Go.wp_at_succ
/-- The mark of a thing. -/
def mkStr (k : Int) (_ : ByteArray) : ByteArray := markB (k)
set_option maxRecDepth 100000 in
set_option maxHeartbeats 4000000 in
theorem markSStr_l (a : Option Addr) (l : List ByteArray) (cap : Nat) (k : Int) (w : World) (base : Nat) (hl : l.length ≤ 1048576) (h0 : 1 ≤ k) (h1 : k + (cntL (fun _ => 1) l : Nat) ≤ 90000000) (ho : w.ownsRow base 9 1 (.slice a l.length cap) l.length (strK.flat l)) :
  Calls Tryz.prog 144 #[.slice a l.length cap, .int .i64 k] w fun e w' => e = .returned (.int .i64 (k + (cntL (fun _ => 1) l : Nat))) ∧ w'.ownsRow base 9 1 (.slice a l.length cap) l.length (strK.flat (markL mkStr (fun _ => 1) k l)) ∧ KeptBut w w' (blk a) := by
 by_cases hz : l.length = 0
 ·have hl0 : l = [] := List.eq_nil_of_length_eq_zero hz
  subst hl0
  have HO : Hid (w.ownsRow base 9 1 (.slice a 0 cap) 0 (strK.flat [])) := ho
  clear ho
  go_enter Tryz.func144, Tryz.ntmps144
  go_wp2_with fail
  go_loopw [1, 5] (fun q i wr => q = .int .i64 k ∧ i = .int .i64 0 ∧ wr = w) (fun _ _ _ => 0)
  case atStart => exact ⟨rfl, rfl, rfl⟩
  case round =>
   obtain ⟨rfl, rfl, rfl⟩ := hrel
   go_wp2
   go_ret
   exact ⟨ret_int (by simp [cntL]), HO.out, KeptBut.refl _ _⟩
 obtain ⟨g, rfl, hrow⟩ := RowAt.of_owns (K := strK) ho hz
 have HR : Hid (RowAt strK 9 w base g cap l) := hrow
 have HB : Hid (k + (cntL (fun _ : ByteArray => 1) l : Nat) ≤ 90000000) := h1
 clear ho hrow h1 hz
 go_enter Tryz.func144, Tryz.ntmps144
 go_wp2_with fail
 go_loopw [1, 5] (fun q i wr => ∃ (j : Nat) (m : Int), j ≤ l.length ∧ i = .int .i64 j ∧ q = .int .i64 m ∧ 1 ≤ m ∧ m ≤ 90000000 ∧ Hid (m = k + (cntL (fun _ : ByteArray => 1) (l.take j) : Nat) ∧ RowAt strK 9 wr base g cap (markL mkStr (fun _ => 1) k (l.take j) ++ l.drop j) ∧ KeptBut w wr [g])) (fun _ i _ => l.length - (intOf i).toNat)
 case atStart => exact ⟨0, k, Nat.zero_le _, rfl, rfl, h0, by have := HB.out; omega, ⟨by simp [cntL], HR.out, KeptBut.refl _ _⟩⟩
 case round =>
  clear HR
  obtain ⟨j, m, hj, rfl, rfl, m0, m1, HA⟩ := hrel
  by_cases hlt : j < l.length
  ·have i0 : (0 : Int) ≤ (j : Int) := by omega
   have i1 : (j : Int) < (l.length : Int) := by omega
   obtain ⟨x, hx⟩ : ∃ x, l[j]? = some x := ⟨_, List.getElem?_eq_getElem hlt⟩
   have hdr : l.drop j = x :: l.drop (j + 1) := drop_at hx
   have hcn := cntL_take_lt (c := fun _ : ByteArray => 1) hx
   have hup := cntL_up (c := fun _ : ByteArray => 1) hx
   have HX : Hid (l[j]? = some x ∧ m + 1 ≤ 90000000 ∧ m + 1 = k + (cntL (fun _ : ByteArray => 1) (l.take (j + 1)) : Nat)) := ⟨hx, by have := HB.out; have := HA.out.1; omega, by have := HA.out.1; omega⟩
   have HW : Hid (RowAt strK 9 wr base g cap (markL mkStr (fun _ => 1) k (l.take j) ++ x :: l.drop (j + 1)) ∧ (markL mkStr (fun _ => 1) k (l.take j)).length = j) := ⟨by have := HA.out.2.1; rwa [hdr] at this, by rw [markL_length, List.length_take]; omega⟩
   clear hx hdr hcn hup
   have m2 : m + 1 ≤ 90000000 := HX.out.2.1
   have hgl : g < wr.heap.size := HW.out.1.lt
   go_wp2_with fail
   refine (markText_any (m) (by omega) (by omega) _).mono ?_
   rintro e v0 ⟨rfl, hb0⟩
   have HV0 : Hid (RowAt strK 9 v0 base g cap (markL mkStr (fun _ => 1) k (l.take j) ++ (x) :: l.drop (j + 1)) ∧ (markL mkStr (fun _ => 1) k (l.take j)).length = j) := ⟨HW.out.1.same (hb0.block g HW.out.1.lt), HW.out.2⟩
   have HV0K : Hid (KeptBut w v0 [g]) := HA.out.2.2.trans (KeptBut.of_below hb0)
   clear hb0
   have q0 := RowAt.at_mid HV0.out.1 HV0.out.2 (r := 0) (by decide : 0 < strK.n)
   obtain ⟨⟨u0, c0⟩, f0⟩ : (∃ u, v0.cell? ⟨g, j, none⟩ = some u) ∧ v0.frozen? ⟨g, j, none⟩ = false := by have h5 := q0; rw [show j * strK.n + 0 = j by show j * 1 + 0 = j; omega] at h5; exact h5
   have h5 := RowAt.part (K := strK) (x := x) (y := (markB (m))) (j := 0) (vs := [.string (markB (m))]) HV0.out.1 (by show 0 + 1 ≤ 1; omega) (fun r hr => by match r, hr with | 0, _ => rfl) (fun r hr hn => by match r, hr, hn with | 0, _, hn => exact absurd ⟨by omega, by show 0 < 0 + 1; omega⟩ hn )
   rw [HV0.out.2, show strK.n = 1 from rfl] at h5
   simp only [setAllW, Nat.mul_one, Nat.add_zero] at h5
   have HS0 : Hid (RowAt strK 9 (v0.setCell ⟨g, j, none⟩ (.string (markB (m)))) base g cap (markL mkStr (fun _ => 1) k (l.take j) ++ (markB (m)) :: l.drop (j + 1)) ∧ (markL mkStr (fun _ => 1) k (l.take j)).length = j) := ⟨h5, HV0.out.2⟩
   have h6 : KeptBut w (setAllW v0 g (j) [.string (markB (m))]) [g] := HV0K.out.trans (KeptBut.set _ (by simp))
   simp only [setAllW] at h6
   have HS0K : Hid (KeptBut w (v0.setCell ⟨g, j, none⟩ (.string (markB (m)))) [g]) := h6
   clear h6
   clear h5
   have HN : Hid (RowAt strK 9 (v0.setCell ⟨g, j, none⟩ (.string (markB (m)))) base g cap (markL mkStr (fun _ => 1) k (l.take (j + 1)) ++ l.drop (j + 1)) ∧ KeptBut w (v0.setCell ⟨g, j, none⟩ (.string (markB (m)))) [g]) := ⟨by rw [markL_up HX.out.1, List.append_assoc, ← HA.out.1]; exact HS0.out.1, HS0K.out⟩
   go_wp2
   go_roundw
   case rel => exact ⟨j + 1, m + 1, by omega, by go_num, by go_num, by omega, by omega, ⟨HX.out.2.2, HN.out.1, HN.out.2⟩⟩
   case measure => simp [intOf]; omega
  ·have i1 : ¬ (j : Int) < (l.length : Int) := by omega
   have ej : j = l.length := by omega
   subst ej
   have HE : Hid (RowAt strK 9 wr base g cap (markL mkStr (fun _ => 1) k l) ∧ m = k + (cntL (fun _ : ByteArray => 1) l : Nat)) := by have h5 := HA.out.2.1; have h6 := HA.out.1; rw [List.take_length, List.drop_length, List.append_nil] at h5; rw [List.take_length] at h6; exact ⟨h5, h6⟩
   go_wp2
   go_ret
   refine ⟨ret_int HE.out.2, ?_, HA.out.2.2.mono (by simp [blk])⟩
   have h7 := HE.out.1.owns
   rw [markL_length] at h7
   exact h7
def HeldStr0 (w : World) (a : Option Addr) (l : List ByteArray) (g j : Nat) (m : Int) (w' : World) : Prop := w'.cell? ⟨g, j, none⟩ = some (.string (markB m)) ∧ Hid (strK.Lies w' a l ∧ Below w.heap.size w w')
set_option maxRecDepth 100000 in
set_option maxHeartbeats 4000000 in
theorem heldSStr_l (a : Option Addr) (l : List ByteArray) (cap : Nat) (k : Int) (w : World) (hl : l.length ≤ 1048576) (h0 : 1 ≤ k) (h1 : k + (cntL (fun _ => 1) l : Nat) ≤ 90000000) (hr : strK.Lies w a (markL mkStr (fun _ => 1) k l)) :
  Calls Tryz.prog 200 #[.slice a l.length cap, .int .i64 k] w fun e w' => e = .returned (.int .i64 (k + (cntL (fun _ => 1) l : Nat))) ∧ Below w.heap.size w w' := by
 have HR : Hid (strK.Lies w a (markL mkStr (fun _ => 1) k l) ∧ k + (cntL (fun _ : ByteArray => 1) l : Nat) ≤ 90000000) := ⟨hr, h1⟩
 clear hr h1
 go_enter Tryz.func200, Tryz.ntmps200
 go_wp2_with fail
 go_loopw [1, 5] (fun q i wr => ∃ (j : Nat) (m : Int), j ≤ l.length ∧ i = .int .i64 j ∧ q = .int .i64 m ∧ 1 ≤ m ∧ m ≤ 90000000 ∧ Hid (m = k + (cntL (fun _ : ByteArray => 1) (l.take j) : Nat) ∧ Below w.heap.size w wr)) (fun _ i _ => l.length - (intOf i).toNat)
 case atStart => exact ⟨0, k, Nat.zero_le _, rfl, rfl, h0, by have := HR.out.2; omega, ⟨by simp [cntL], Below.refl _ _⟩⟩
 case round =>
  obtain ⟨j, m, hj, rfl, rfl, m0, m1, HA⟩ := hrel
  by_cases hlt : j < l.length
  ·have i0 : (0 : Int) ≤ (j : Int) := by omega
   have i1 : (j : Int) < (l.length : Int) := by omega
   obtain ⟨x, hx⟩ : ∃ x, l[j]? = some x := ⟨_, List.getElem?_eq_getElem hlt⟩
   have hcn := cntL_take_lt (c := fun _ : ByteArray => 1) hx
   have hup := cntL_up (c := fun _ : ByteArray => 1) hx
   have hg := markL_get (f := mkStr) (c := fun _ : ByteArray => 1) (k := k) hx
   rw [← HA.out.1] at hg
   obtain ⟨g, ha, hat⟩ := (HR.out.1.below HA.out.2).at hg
   have c0 : wr.cell? ⟨g, j, none⟩ = some (.string (markB (m))) := by have h5 := hat 0 _ rfl; rw [show j * strK.n + 0 = j by show j * 1 + 0 = j; omega] at h5; exact h5
   have HX : Hid (m + 1 ≤ 90000000 ∧ m + 1 = k + (cntL (fun _ : ByteArray => 1) (l.take (j + 1)) : Nat) ∧ a = some ⟨g, 0, none⟩ ∧ (markL mkStr (fun _ => 1) k l)[j]? = some (mkStr m x)) := ⟨by have := HR.out.2; have := HA.out.1; omega, by have := HA.out.1; omega, ha, hg⟩
   have m2 : m + 1 ≤ 90000000 := HX.out.1
   subst ha
   clear hx hcn hup hg hat
   go_wp2_with fail
   have HT : Hid (HeldStr0 w (some ⟨g, 0, none⟩) (markL mkStr (fun _ => 1) k l) g j (m) wr.drew) := ⟨c0, (HR.out.1.below HA.out.2).below (Below.refl _ _).drew, HA.out.2.drew⟩
   clear c0
   refine tame_region (HeldStr0 w (some ⟨g, 0, none⟩) (markL mkStr (fun _ => 1) k l) g j (m)) (by kernel_rfl) HT.out ?_
   iterate 5 (refine yl (v := ?_) ?_ ?_; rotate_left; (intro w0 hS0; obtain ⟨q0, hH⟩ := hS0; go_simp; try with_reducible rfl); simp only [pt, sb, s0, s1])
   refine cl (.string (markB (m))) 134 #[.int .i64 (m)] ?_ ?_ ?_
   ·intro w0 hS0
    obtain ⟨q0, hH⟩ := hS0
    go_simp
    try with_reducible rfl
   ·intro w0 hS0
    refine (markText_any (m) (by omega) (by omega) w0).mono ?_
    rintro e w2 ⟨rfl, hb2⟩
    exact ⟨rfl, (World.cell?_of_block (hb2.block g (block_lt_of_cell hS0.1))).trans hS0.1, hS0.2.out.1.below hb2, hS0.2.out.2.trans (hb2.mono hS0.2.out.2.size)⟩
   simp only [pt, sb, s0, s1]
   (refine yl (v := ?_) ?_ ?_; rotate_left; (intro w0 hS0; obtain ⟨q0, hH⟩ := hS0; go_simp; try with_reducible rfl); simp only [pt, sb, s0, s1])
   refine tame_done (by kernel_rfl) ?_ _
   intro w1 hS1
   have HZ : Hid (Below w.heap.size w w1) := hS1.2.out.2
   clear hS1 HT
   go_wp2
   go_roundw
   case rel => exact ⟨j + 1, m + 1, by omega, by go_num, by go_num, by omega, by omega, ⟨HX.out.2.1, HZ.out⟩⟩
   case measure => simp [intOf]; omega
  ·have i1 : ¬ (j : Int) < (l.length : Int) := by omega
   have HE : Hid (m = k + (cntL (fun _ : ByteArray => 1) l : Nat)) := by have h6 := HA.out.1; rw [List.take_of_length_le (by omega)] at h6; exact h6
   go_wp2
   go_ret
   exact ⟨ret_int HE.out, HA.out.2⟩
end Go.Proofs.YtkbcplnlehdjfaaGreat

/- Lists of the kind Sem, marked and read again. (Made by mkmark.py.) -/
namespace Go.Proofs.YtkbcplnlehdjfaaGreat
open Go.RowKit
attribute [local go_sem ↓] Go.wp_at_zero Go.wp_at_succ
/-- The mark of a thing. -/
def mkSem (k : Int) (_ : SemD) : SemD := ⟨k, k + 1, k + 1 + 1⟩
set_option maxRecDepth 100000 in
set_option maxHeartbeats 4000000 in
theorem markSSem_l (a : Option Addr) (l : List SemD) (cap : Nat) (k : Int) (w : World) (base : Nat) (hl : l.length ≤ 1048576) (h0 : 1 ≤ k) (h1 : k + (cntL (fun _ => 3) l : Nat) ≤ 90000000) (ho : w.ownsRow base 49 3 (.slice a l.length cap) l.length (semK.flat l)) :
  Calls Tryz.prog 129 #[.slice a l.length cap, .int .i64 k] w fun e w' => e = .returned (.int .i64 (k + (cntL (fun _ => 3) l : Nat))) ∧ w'.ownsRow base 49 3 (.slice a l.length cap) l.length (semK.flat (markL mkSem (fun _ => 3) k l)) ∧ KeptBut w w' (blk a) := by
 by_cases hz : l.length = 0
 ·have hl0 : l = [] := List.eq_nil_of_length_eq_zero hz
  subst hl0
  have HO : Hid (w.ownsRow base 49 3 (.slice a 0 cap) 0 (semK.flat [])) := ho
  clear ho
  go_enter Tryz.func129, Tryz.ntmps129
  go_wp2_with fail
  go_loopw [1, 5] (fun q i wr => q = .int .i64 k ∧ i = .int .i64 0 ∧ wr = w) (fun _ _ _ => 0)
  case atStart => exact ⟨rfl, rfl, rfl⟩
  case round =>
   obtain ⟨rfl, rfl, rfl⟩ := hrel
   go_wp2
   go_ret
   exact ⟨ret_int (by simp [cntL]), HO.out, KeptBut.refl _ _⟩
 obtain ⟨g, rfl, hrow⟩ := RowAt.of_owns (K := semK) ho hz
 have HR : Hid (RowAt semK 49 w base g cap l) := hrow
 have HB : Hid (k + (cntL (fun _ : SemD => 3) l : Nat) ≤ 90000000) := h1
 clear ho hrow h1 hz
 go_enter Tryz.func129, Tryz.ntmps129
 go_wp2_with fail
 go_loopw [1, 5] (fun q i wr => ∃ (j : Nat) (m : Int), j ≤ l.length ∧ i = .int .i64 j ∧ q = .int .i64 m ∧ 1 ≤ m ∧ m ≤ 90000000 ∧ Hid (m = k + (cntL (fun _ : SemD => 3) (l.take j) : Nat) ∧ RowAt semK 49 wr base g cap (markL mkSem (fun _ => 3) k (l.take j) ++ l.drop j) ∧ KeptBut w wr [g])) (fun _ i _ => l.length - (intOf i).toNat)
 case atStart => exact ⟨0, k, Nat.zero_le _, rfl, rfl, h0, by have := HB.out; omega, ⟨by simp [cntL], HR.out, KeptBut.refl _ _⟩⟩
 case round =>
  clear HR
  obtain ⟨j, m, hj, rfl, rfl, m0, m1, HA⟩ := hrel
  by_cases hlt : j < l.length
  ·have i0 : (0 : Int) ≤ (j : Int) := by omega
   have i1 : (j : Int) < (l.length : Int) := by omega
   obtain ⟨x, hx⟩ : ∃ x, l[j]? = some x := ⟨_, List.getElem?_eq_getElem hlt⟩
   have hdr : l.drop j = x :: l.drop (j + 1) := drop_at hx
   have hcn := cntL_take_lt (c := fun _ : SemD => 3) hx
   have hup := cntL_up (c := fun _ : SemD => 3) hx
   have HX : Hid (l[j]? = some x ∧ m + 3 ≤ 90000000 ∧ m + 3 = k + (cntL (fun _ : SemD => 3) (l.take (j + 1)) : Nat)) := ⟨hx, by have := HB.out; have := HA.out.1; omega, by have := HA.out.1; omega⟩
   have HW : Hid (RowAt semK 49 wr base g cap (markL mkSem (fun _ => 3) k (l.take j) ++ x :: l.drop (j + 1)) ∧ (markL mkSem (fun _ => 3) k (l.take j)).length = j) := ⟨by have := HA.out.2.1; rwa [hdr] at this, by rw [markL_length, List.length_take]; omega⟩
   clear hx hdr hcn hup
   have m2 : m + 3 ≤ 90000000 := HX.out.2.1
   have hgl : g < wr.heap.size := HW.out.1.lt
   have q0 := RowAt.at_mid HW.out.1 HW.out.2 (r := 0) (by decide : 0 < semK.n)
   obtain ⟨⟨u0, c0⟩, f0⟩ : (∃ u, wr.cell? ⟨g, j * 3, none⟩ = some u) ∧ wr.frozen? ⟨g, j * 3, none⟩ = false := q0
   have q1 := RowAt.at_mid HW.out.1 HW.out.2 (r := 1) (by decide : 1 < semK.n)
   obtain ⟨⟨u1, c1⟩, f1⟩ : (∃ u, wr.cell? ⟨g, j * 3 + 1, none⟩ = some u) ∧ wr.frozen? ⟨g, j * 3 + 1, none⟩ = false := q1
   have q2 := RowAt.at_mid HW.out.1 HW.out.2 (r := 2) (by decide : 2 < semK.n)
   obtain ⟨⟨u2, c2⟩, f2⟩ : (∃ u, wr.cell? ⟨g, j * 3 + 2, none⟩ = some u) ∧ wr.frozen? ⟨g, j * 3 + 2, none⟩ = false := q2
   have h5 := RowAt.part (K := semK) (x := (⟨x.id, x.n, x.max⟩ : SemD)) (y := (⟨m, m + 1, m + 1 + 1⟩ : SemD)) (j := 0) (vs := [.int .i64 (m), .int .i64 (m + 1), .int .i64 (m + 1 + 1)]) HW.out.1 (by show 0 + 3 ≤ 3; omega) (fun r hr => by match r, hr with | 0, _ => rfl | 1, _ => rfl | 2, _ => rfl) (fun r hr hn => by match r, hr, hn with | 0, _, hn => exact absurd ⟨by omega, by show 0 < 0 + 3; omega⟩ hn | 1, _, hn => exact absurd ⟨by omega, by show 1 < 0 + 3; omega⟩ hn | 2, _, hn => exact absurd ⟨by omega, by show 2 < 0 + 3; omega⟩ hn )
   rw [HW.out.2, show semK.n = 3 from rfl] at h5
   simp only [setAllW, Nat.add_assoc, Nat.reduceAdd, Nat.add_zero] at h5
   have HS0 : Hid (RowAt semK 49 (((wr.setCell ⟨g, j * 3, none⟩ (.int .i64 (m))).setCell ⟨g, j * 3 + 1, none⟩ (.int .i64 (m + 1))).setCell ⟨g, j * 3 + 2, none⟩ (.int .i64 (m + 1 + 1))) base g cap (markL mkSem (fun _ => 3) k (l.take j) ++ (⟨m, m + 1, m + 1 + 1⟩ : SemD) :: l.drop (j + 1)) ∧ (markL mkSem (fun _ => 3) k (l.take j)).length = j) := ⟨h5, HW.out.2⟩
   have h6 : KeptBut w (setAllW wr g (j * 3) [.int .i64 (m), .int .i64 (m + 1), .int .i64 (m + 1 + 1)]) [g] := HA.out.2.2.trans (KeptBut.set _ (by simp))
   simp only [setAllW, Nat.add_assoc, Nat.reduceAdd] at h6
   have HS0K : Hid (KeptBut w (((wr.setCell ⟨g, j * 3, none⟩ (.int .i64 (m))).setCell ⟨g, j * 3 + 1, none⟩ (.int .i64 (m + 1))).setCell ⟨g, j * 3 + 2, none⟩ (.int .i64 (m + 1 + 1))) [g]) := h6
   clear h6
   clear h5
   have HN : Hid (RowAt semK 49 (((wr.setCell ⟨g, j * 3, none⟩ (.int .i64 (m))).setCell ⟨g, j * 3 + 1, none⟩ (.int .i64 (m + 1))).setCell ⟨g, j * 3 + 2, none⟩ (.int .i64 (m + 1 + 1))) base g cap (markL mkSem (fun _ => 3) k (l.take (j + 1)) ++ l.drop (j + 1)) ∧ KeptBut w (((wr.setCell ⟨g, j * 3, none⟩ (.int .i64 (m))).setCell ⟨g, j * 3 + 1, none⟩ (.int .i64 (m + 1))).setCell ⟨g, j * 3 + 2, none⟩ (.int .i64 (m + 1 + 1))) [g]) := ⟨by rw [markL_up HX.out.1, List.append_assoc, ← HA.out.1]; exact HS0.out.1, HS0K.out⟩
   go_wp2
   go_roundw
   case rel => exact ⟨j + 1, m + 3, by omega, by go_num, by go_num, by omega, by omega, ⟨HX.out.2.2, HN.out.1, HN.out.2⟩⟩
   case measure => simp [intOf]; omega
  ·have i1 : ¬ (j : Int) < (l.length : Int) := by omega
   have ej : j = l.length := by omega
   subst ej
   have HE : Hid (RowAt semK 49 wr base g cap (markL mkSem (fun _ => 3) k l) ∧ m = k + (cntL (fun _ : SemD => 3) l : Nat)) := by have h5 := HA.out.2.1; have h6 := HA.out.1; rw [List.take_length, List.drop_length, List.append_nil] at h5; rw [List.take_length] at h6; exact ⟨h5, h6⟩
   go_wp2
   go_ret
   refine ⟨ret_int HE.out.2, ?_, HA.out.2.2.mono (by simp [blk])⟩
   have h7 := HE.out.1.owns
   rw [markL_length] at h7
   exact h7
set_option maxRecDepth 100000 in
set_option maxHeartbeats 4000000 in
theorem heldSSem_l (a : Option Addr) (l : List SemD) (cap : Nat) (k : Int) (w : World) (hl : l.length ≤ 1048576) (h0 : 1 ≤ k) (h1 : k + (cntL (fun _ => 3) l : Nat) ≤ 90000000) (hr : semK.Lies w a (markL mkSem (fun _ => 3) k l)) :
  Calls Tryz.prog 136 #[.slice a l.length cap, .int .i64 k] w fun e w' => e = .returned (.int .i64 (k + (cntL (fun _ => 3) l : Nat))) ∧ Below w.heap.size w w' := by
 have HR : Hid (semK.Lies w a (markL mkSem (fun _ => 3) k l) ∧ k + (cntL (fun _ : SemD => 3) l : Nat) ≤ 90000000) := ⟨hr, h1⟩
 clear hr h1
 go_enter Tryz.func136, Tryz.ntmps136
 go_wp2_with fail
 go_loopw [1, 5] (fun q i wr => ∃ (j : Nat) (m : Int), j ≤ l.length ∧ i = .int .i64 j ∧ q = .int .i64 m ∧ 1 ≤ m ∧ m ≤ 90000000 ∧ Hid (m = k + (cntL (fun _ : SemD => 3) (l.take j) : Nat) ∧ Below w.heap.size w wr)) (fun _ i _ => l.length - (intOf i).toNat)
 case atStart => exact ⟨0, k, Nat.zero_le _, rfl, rfl, h0, by have := HR.out.2; omega, ⟨by simp [cntL], Below.refl _ _⟩⟩
 case round =>
  obtain ⟨j, m, hj, rfl, rfl, m0, m1, HA⟩ := hrel
  by_cases hlt : j < l.length
  ·have i0 : (0 : Int) ≤ (j : Int) := by omega
   have i1 : (j : Int) < (l.length : Int) := by omega
   obtain ⟨x, hx⟩ : ∃ x, l[j]? = some x := ⟨_, List.getElem?_eq_getElem hlt⟩
   have hcn := cntL_take_lt (c := fun _ : SemD => 3) hx
   have hup := cntL_up (c := fun _ : SemD => 3) hx
   have hg := markL_get (f := mkSem) (c := fun _ : SemD => 3) (k := k) hx
   rw [← HA.out.1] at hg
   obtain ⟨g, ha, hat⟩ := (HR.out.1.below HA.out.2).at hg
   have c0 : wr.cell? ⟨g, j * 3, none⟩ = some (.int .i64 (m)) := hat 0 _ rfl
   have c1 : wr.cell? ⟨g, j * 3 + 1, none⟩ = some (.int .i64 (m + 1)) := hat 1 _ rfl
   have c2 : wr.cell? ⟨g, j * 3 + 2, none⟩ = some (.int .i64 (m + 1 + 1)) := hat 2 _ rfl
   have HX : Hid (m + 3 ≤ 90000000 ∧ m + 3 = k + (cntL (fun _ : SemD => 3) (l.take (j + 1)) : Nat) ∧ a = some ⟨g, 0, none⟩ ∧ (markL mkSem (fun _ => 3) k l)[j]? = some (mkSem m x)) := ⟨by have := HR.out.2; have := HA.out.1; omega, by have := HA.out.1; omega, ha, hg⟩
   have m2 : m + 3 ≤ 90000000 := HX.out.1
   subst ha
   clear hx hcn hup hg hat
   go_wp2
   go_roundw
   case rel => exact ⟨j + 1, m + 3, by omega, by go_num, by go_num, by omega, by omega, ⟨HX.out.2.1, HA.out.2⟩⟩
   case measure => simp [intOf]; omega
  ·have i1 : ¬ (j : Int) < (l.length : Int) := by omega
   have HE : Hid (m = k + (cntL (fun _ : SemD => 3) l : Nat)) := by have h6 := HA.out.1; rw [List.take_of_length_le (by omega)] at h6; exact h6
   go_wp2
   go_ret
   exact ⟨ret_int HE.out, HA.out.2⟩
end Go.Proofs.YtkbcplnlehdjfaaGreat

/- Lists of things that have a list each, while they are marked: whose list is whose. -/
namespace Go.Proofs.YtkbcplnlehdjfaaGreat
open Go.RowKit
section
variable {α : Type} {N : Nest α} {w w' : World} {base g : Nat} {A B : List α} {x y : α}
/-- Every thing's list is its own, no two in one block, none in the block of the things themselves. -/
structure Mines (N : Nest α) (w : World) (base g : Nat) (l : List α) : Prop where
 mine : ∀ z ∈ l, N.Mine w base z
 nodup : (g :: l.filterMap N.kid).Nodup
theorem Mines.keep {l : List α} (h : Mines N w base g l) (hk : KeptBut w w' [g]) : Mines N w' base g l :=
 ⟨fun z hz => (h.mine z hz).same fun b hb => hk.same b ((h.mine z hz).lt hb).2 fun hm => by
  simp only [List.mem_cons, List.not_mem_nil, or_false] at hm
  subst hm
  exact (List.nodup_cons.1 h.nodup).1 (List.mem_filterMap.2 ⟨z, hz, hb⟩), h.nodup⟩
/-- The thing itself turns, its list stays. -/
theorem Mines.turn (h : Mines N w base g (A ++ x :: B)) (hk : N.kid y = N.kid x) (hm : N.Mine w base y) : Mines N w base g (A ++ y :: B) := by
 refine ⟨fun z hz => ?_, ?_⟩
 ·rcases List.mem_append.1 hz with hz | hz
  ·exact h.mine z (List.mem_append_left _ hz)
  ·rcases List.mem_cons.1 hz with rfl | hz
   ·exact hm
   ·exact h.mine z (List.mem_append_right _ (List.mem_cons_of_mem _ hz))
 ·have := h.nodup
  rw [List.filterMap_append, List.filterMap_cons] at this ⊢
  rw [hk]
  exact this
/-- Its list alone is written into. -/
theorem Mines.inner (h : Mines N w base g (A ++ x :: B)) (hw : KeptBut w w' (blk (N.ad x))) (hk : N.kid y = N.kid x) (hm : N.Mine w' base y) : Mines N w' base g (A ++ y :: B) := by
 have hmem : ∀ b, b ∈ blk (N.ad x) ↔ N.kid x = some b := fun b => mem_blk
 have hn := (List.nodup_cons.1 h.nodup).2
 rw [List.filterMap_append] at hn
 have key : ∀ z ∈ A ++ B, ∀ b, N.kid z = some b → ¬ N.kid x = some b := fun z hz b hb hx => by
  rw [List.nodup_append] at hn
  rcases List.mem_append.1 hz with hz | hz
  ·exact hn.2.2 b (List.mem_filterMap.2 ⟨z, hz, hb⟩) b (List.mem_filterMap.2 ⟨x, by simp, hx⟩) rfl
  ·have h2 := hn.2.1
   rw [List.filterMap_cons, hx, List.nodup_cons] at h2
   exact h2.1 (List.mem_filterMap.2 ⟨z, hz, hb⟩)
 have hz : ∀ z ∈ A ++ B, N.Mine w base z → N.Mine w' base z := fun z hz hmz => hmz.same fun b hb => hw.same b (hmz.lt hb).2 fun hm' => key z hz b hb ((hmem b).1 hm')
 refine ⟨fun z hz' => ?_, ?_⟩
 ·rcases List.mem_append.1 hz' with h1 | h1
  ·exact hz z (List.mem_append_left _ h1) (h.mine z (List.mem_append_left _ h1))
  ·rcases List.mem_cons.1 h1 with rfl | h1
   ·exact hm
   ·exact hz z (List.mem_append_right _ h1) (h.mine z (List.mem_append_right _ (List.mem_cons_of_mem _ h1)))
 ·have := h.nodup
  rw [List.filterMap_append, List.filterMap_cons] at this ⊢
  rw [hk]
  exact this
/-- The block of the things is not one of their lists. -/
theorem Mines.apart {l : List α} (h : Mines N w base g l) {z : α} (hz : z ∈ l) : g ∉ blk (N.ad z) := fun hm =>
 (List.nodup_cons.1 h.nodup).1 (List.mem_filterMap.2 ⟨z, hz, mem_blk.1 hm⟩)
end
end Go.Proofs.YtkbcplnlehdjfaaGreat

/- What the proof leans on, part 3: MkOp, MkProc, MkHProc, MkSem, MkEvent, MkBoard, MkStr, MkBuffer, MkPort, PartAdd, MkPart, OpSmall, LwOp. -/
import Derived.Test.YtkbcplnlehdjfaaGreatOwnQ0
import Derived.Test.YtkbcplnlehdjfaaGreatOwnQ1
import Derived.Test.YtkbcplnlehdjfaaGreatOwnQ2

namespace Go.Proofs.YtkbcplnlehdjfaaGreat
open Go.RowKit
attribute [local go_sem ↓] Go.wp_at_zero Go.wp_at_succ

/-- The mark of a thing. -/
def mkOp (k : Int) (_ : OpD) : OpD := (k, k + 1, k + 1 + 1, markB (k + 1 + 1 + 1))
set_option maxRecDepth 100000 in
set_option maxHeartbeats 4000000 in
theorem markSOp_l (a : Option Addr) (l : List OpD) (cap : Nat) (k : Int) (w : World) (base : Nat) (hl : l.length ≤ 1048576) (h0 : 1 ≤ k) (h1 : k + (cntL (fun _ => 4) l : Nat) ≤ 90000000) (ho : w.ownsRow base 134 4 (.slice a l.length cap) l.length (opK.flat l)) :
  Calls Tryz.prog 65 #[.slice a l.length cap, .int .i64 k] w fun e w' => e = .returned (.int .i64 (k + (cntL (fun _ => 4) l : Nat))) ∧ w'.ownsRow base 134 4 (.slice a l.length cap) l.length (opK.flat (markL mkOp (fun _ => 4) k l)) ∧ KeptBut w w' (blk a) := by
 by_cases hz : l.length = 0
 ·have hl0 : l = [] := List.eq_nil_of_length_eq_zero hz
  subst hl0
  have HO : Hid (w.ownsRow base 134 4 (.slice a 0 cap) 0 (opK.flat [])) := ho
  clear ho
  go_enter Tryz.func65, Tryz.ntmps65
  go_wp2_with fail
  go_loopw [1, 5] (fun q i wr => q = .int .i64 k ∧ i = .int .i64 0 ∧ wr = w) (fun _ _ _ => 0)
  case atStart => exact ⟨rfl, rfl, rfl⟩
  case round =>
   obtain ⟨rfl, rfl, rfl⟩ := hrel
   go_wp2
   go_ret
   exact ⟨ret_int (by simp [cntL]), HO.out, KeptBut.refl _ _⟩
 obtain ⟨g, rfl, hrow⟩ := RowAt.of_owns (K := opK) ho hz
 have HR : Hid (RowAt opK 134 w base g cap l) := hrow
 have HB : Hid (k + (cntL (fun _ : OpD => 4) l : Nat) ≤ 90000000) := h1
 clear ho hrow h1 hz
 go_enter Tryz.func65, Tryz.ntmps65
 go_wp2_with fail
 go_loopw [1, 5] (fun q i wr => ∃ (j : Nat) (m : Int), j ≤ l.length ∧ i = .int .i64 j ∧ q = .int .i64 m ∧ 1 ≤ m ∧ m ≤ 90000000 ∧ Hid (m = k + (cntL (fun _ : OpD => 4) (l.take j) : Nat) ∧ RowAt opK 134 wr base g cap (markL mkOp (fun _ => 4) k (l.take j) ++ l.drop j) ∧ KeptBut w wr [g])) (fun _ i _ => l.length - (intOf i).toNat)
 case atStart => exact ⟨0, k, Nat.zero_le _, rfl, rfl, h0, by have := HB.out; omega, ⟨by simp [cntL], HR.out, KeptBut.refl _ _⟩⟩
 case round =>
  clear HR
  obtain ⟨j, m, hj, rfl, rfl, m0, m1, HA⟩ := hrel
  by_cases hlt : j < l.length
  ·have i0 : (0 : Int) ≤ (j : Int) := by omega
   have i1 : (j : Int) < (l.length : Int) := by omega
   obtain ⟨x, hx⟩ : ∃ x, l[j]? = some x := ⟨_, List.getElem?_eq_getElem hlt⟩
   have hdr : l.drop j = x :: l.drop (j + 1) := drop_at hx
   have hcn := cntL_take_lt (c := fun _ : OpD => 4) hx
   have hup := cntL_up (c := fun _ : OpD => 4) hx
   have HX : Hid (l[j]? = some x ∧ m + 4 ≤ 90000000 ∧ m + 4 = k + (cntL (fun _ : OpD => 4) (l.take (j + 1)) : Nat)) := ⟨hx, by have := HB.out; have := HA.out.1; omega, by have := HA.out.1; omega⟩
   have HW : Hid (RowAt opK 134 wr base g cap (markL mkOp (fun _ => 4) k (l.take j) ++ x :: l.drop (j + 1)) ∧ (markL mkOp (fun _ => 4) k (l.take j)).length = j) := ⟨by have := HA.out.2.1; rwa [hdr] at this, by rw [markL_length, List.length_take]; omega⟩
   clear hx hdr hcn hup
   have m2 : m + 4 ≤ 90000000 := HX.out.2.1
   have hgl : g < wr.heap.size := HW.out.1.lt
   have q0 := RowAt.at_mid HW.out.1 HW.out.2 (r := 0) (by decide : 0 < opK.n)
   obtain ⟨⟨u0, c0⟩, f0⟩ : (∃ u, wr.cell? ⟨g, j * 4, none⟩ = some u) ∧ wr.frozen? ⟨g, j * 4, none⟩ = false := q0
   have q1 := RowAt.at_mid HW.out.1 HW.out.2 (r := 1) (by decide : 1 < opK.n)
   obtain ⟨⟨u1, c1⟩, f1⟩ : (∃ u, wr.cell? ⟨g, j * 4 + 1, none⟩ = some u) ∧ wr.frozen? ⟨g, j * 4 + 1, none⟩ = false := q1
   have q2 := RowAt.at_mid HW.out.1 HW.out.2 (r := 2) (by decide : 2 < opK.n)
   obtain ⟨⟨u2, c2⟩, f2⟩ : (∃ u, wr.cell? ⟨g, j * 4 + 2, none⟩ = some u) ∧ wr.frozen? ⟨g, j * 4 + 2, none⟩ = false := q2
   have h5 := RowAt.part (K := opK) (x := (x.1, x.2.1, x.2.2.1, x.2.2.2)) (y := (m, m + 1, m + 1 + 1, x.2.2.2)) (j := 0) (vs := [.int .i64 (m), .int .i64 (m + 1), .int .i64 (m + 1 + 1)]) HW.out.1 (by show 0 + 3 ≤ 4; omega) (fun r hr => by match r, hr with | 0, _ => rfl | 1, _ => rfl | 2, _ => rfl) (fun r hr hn => by match r, hr, hn with | 0, _, hn => exact absurd ⟨by omega, by show 0 < 0 + 3; omega⟩ hn | 1, _, hn => exact absurd ⟨by omega, by show 1 < 0 + 3; omega⟩ hn | 2, _, hn => exact absurd ⟨by omega, by show 2 < 0 + 3; omega⟩ hn | 3, _, _ => rfl )
   rw [HW.out.2, show opK.n = 4 from rfl] at h5
   simp only [setAllW, Nat.add_assoc, Nat.reduceAdd, Nat.add_zero] at h5
   have HS0 : Hid (RowAt opK 134 (((wr.setCell ⟨g, j * 4, none⟩ (.int .i64 (m))).setCell ⟨g, j * 4 + 1, none⟩ (.int .i64 (m + 1))).setCell ⟨g, j * 4 + 2, none⟩ (.int .i64 (m + 1 + 1))) base g cap (markL mkOp (fun _ => 4) k (l.take j) ++ (m, m + 1, m + 1 + 1, x.2.2.2) :: l.drop (j + 1)) ∧ (markL mkOp (fun _ => 4) k (l.take j)).length = j) := ⟨h5, HW.out.2⟩
   have h6 : KeptBut w (setAllW wr g (j * 4) [.int .i64 (m), .int .i64 (m + 1), .int .i64 (m + 1 + 1)]) [g] := HA.out.2.2.trans (KeptBut.set _ (by simp))
   simp only [setAllW, Nat.add_assoc, Nat.reduceAdd] at h6
   have HS0K : Hid (KeptBut w (((wr.setCell ⟨g, j * 4, none⟩ (.int .i64 (m))).setCell ⟨g, j * 4 + 1, none⟩ (.int .i64 (m + 1))).setCell ⟨g, j * 4 + 2, none⟩ (.int .i64 (m + 1 + 1))) [g]) := h6
   clear h6
   clear h5
   go_wp2_with fail
   refine (markText_any (m + 1 + 1 + 1) (by omega) (by omega) _).mono ?_
   rintro e v3 ⟨rfl, hb3⟩
   have HV3 : Hid (RowAt opK 134 v3 base g cap (markL mkOp (fun _ => 4) k (l.take j) ++ (m, m + 1, m + 1 + 1, x.2.2.2) :: l.drop (j + 1)) ∧ (markL mkOp (fun _ => 4) k (l.take j)).length = j) := ⟨HS0.out.1.same (hb3.block g HS0.out.1.lt), HS0.out.2⟩
   have HV3K : Hid (KeptBut w v3 [g]) := HS0K.out.trans (KeptBut.of_below hb3)
   clear hb3
   have q3 := RowAt.at_mid HV3.out.1 HV3.out.2 (r := 3) (by decide : 3 < opK.n)
   obtain ⟨⟨u3, c3⟩, f3⟩ : (∃ u, v3.cell? ⟨g, j * 4 + 3, none⟩ = some u) ∧ v3.frozen? ⟨g, j * 4 + 3, none⟩ = false := q3
   have h5 := RowAt.part (K := opK) (x := (m, m + 1, m + 1 + 1, x.2.2.2)) (y := (m, m + 1, m + 1 + 1, markB (m + 1 + 1 + 1))) (j := 3) (vs := [.string (markB (m + 1 + 1 + 1))]) HV3.out.1 (by show 3 + 1 ≤ 4; omega) (fun r hr => by match r, hr with | 0, _ => rfl) (fun r hr hn => by match r, hr, hn with | 0, _, _ => rfl | 1, _, _ => rfl | 2, _, _ => rfl | 3, _, hn => exact absurd ⟨by omega, by show 3 < 3 + 1; omega⟩ hn )
   rw [HV3.out.2, show opK.n = 4 from rfl] at h5
   simp only [setAllW] at h5
   have HS1 : Hid (RowAt opK 134 (v3.setCell ⟨g, j * 4 + 3, none⟩ (.string (markB (m + 1 + 1 + 1)))) base g cap (markL mkOp (fun _ => 4) k (l.take j) ++ (m, m + 1, m + 1 + 1, markB (m + 1 + 1 + 1)) :: l.drop (j + 1)) ∧ (markL mkOp (fun _ => 4) k (l.take j)).length = j) := ⟨h5, HV3.out.2⟩
   have h6 : KeptBut w (setAllW v3 g (j * 4 + 3) [.string (markB (m + 1 + 1 + 1))]) [g] := HV3K.out.trans (KeptBut.set _ (by simp))
   simp only [setAllW] at h6
   have HS1K : Hid (KeptBut w (v3.setCell ⟨g, j * 4 + 3, none⟩ (.string (markB (m + 1 + 1 + 1)))) [g]) := h6
   clear h6
   clear h5
   have HN : Hid (RowAt opK 134 (v3.setCell ⟨g, j * 4 + 3, none⟩ (.string (markB (m + 1 + 1 + 1)))) base g cap (markL mkOp (fun _ => 4) k (l.take (j + 1)) ++ l.drop (j + 1)) ∧ KeptBut w (v3.setCell ⟨g, j * 4 + 3, none⟩ (.string (markB (m + 1 + 1 + 1)))) [g]) := ⟨by rw [markL_up HX.out.1, List.append_assoc, ← HA.out.1]; exact HS1.out.1, HS1K.out⟩
   go_wp2
   go_roundw
   case rel => exact ⟨j + 1, m + 4, by omega, by go_num, by go_num, by omega, by omega, ⟨HX.out.2.2, HN.out.1, HN.out.2⟩⟩
   case measure => simp [intOf]; omega
  ·have i1 : ¬ (j : Int) < (l.length : Int) := by omega
   have ej : j = l.length := by omega
   subst ej
   have HE : Hid (RowAt opK 134 wr base g cap (markL mkOp (fun _ => 4) k l) ∧ m = k + (cntL (fun _ : OpD => 4) l : Nat)) := by have h5 := HA.out.2.1; have h6 := HA.out.1; rw [List.take_length, List.drop_length, List.append_nil] at h5; rw [List.take_length] at h6; exact ⟨h5, h6⟩
   go_wp2
   go_ret
   refine ⟨ret_int HE.out.2, ?_, HA.out.2.2.mono (by simp [blk])⟩
   have h7 := HE.out.1.owns
   rw [markL_length] at h7
   exact h7
def HeldOp3 (w : World) (a : Option Addr) (l : List OpD) (g j : Nat) (m : Int) (w' : World) : Prop := w'.cell? ⟨g, j * 4 + 3, none⟩ = some (.string (markB m)) ∧ Hid (opK.Lies w' a l ∧ Below w.heap.size w w')
set_option maxRecDepth 100000 in
set_option maxHeartbeats 4000000 in
theorem heldSOp_l (a : Option Addr) (l : List OpD) (cap : Nat) (k : Int) (w : World) (hl : l.length ≤ 1048576) (h0 : 1 ≤ k) (h1 : k + (cntL (fun _ => 4) l : Nat) ≤ 90000000) (hr : opK.Lies w a (markL mkOp (fun _ => 4) k l)) :
  Calls Tryz.prog 145 #[.slice a l.length cap, .int .i64 k] w fun e w' => e = .returned (.int .i64 (k + (cntL (fun _ => 4) l : Nat))) ∧ Below w.heap.size w w' := by
 have HR : Hid (opK.Lies w a (markL mkOp (fun _ => 4) k l) ∧ k + (cntL (fun _ : OpD => 4) l : Nat) ≤ 90000000) := ⟨hr, h1⟩
 clear hr h1
 go_enter Tryz.func145, Tryz.ntmps145
 go_wp2_with fail
 go_loopw [1, 5] (fun q i wr => ∃ (j : Nat) (m : Int), j ≤ l.length ∧ i = .int .i64 j ∧ q = .int .i64 m ∧ 1 ≤ m ∧ m ≤ 90000000 ∧ Hid (m = k + (cntL (fun _ : OpD => 4) (l.take j) : Nat) ∧ Below w.heap.size w wr)) (fun _ i _ => l.length - (intOf i).toNat)
 case atStart => exact ⟨0, k, Nat.zero_le _, rfl, rfl, h0, by have := HR.out.2; omega, ⟨by simp [cntL], Below.refl _ _⟩⟩
 case round =>
  obtain ⟨j, m, hj, rfl, rfl, m0, m1, HA⟩ := hrel
  by_cases hlt : j < l.length
  ·have i0 : (0 : Int) ≤ (j : Int) := by omega
   have i1 : (j : Int) < (l.length : Int) := by omega
   obtain ⟨x, hx⟩ : ∃ x, l[j]? = some x := ⟨_, List.getElem?_eq_getElem hlt⟩
   have hcn := cntL_take_lt (c := fun _ : OpD => 4) hx
   have hup := cntL_up (c := fun _ : OpD => 4) hx
   have hg := markL_get (f := mkOp) (c := fun _ : OpD => 4) (k := k) hx
   rw [← HA.out.1] at hg
   obtain ⟨g, ha, hat⟩ := (HR.out.1.below HA.out.2).at hg
   have c0 : wr.cell? ⟨g, j * 4, none⟩ = some (.int .i64 (m)) := hat 0 _ rfl
   have c1 : wr.cell? ⟨g, j * 4 + 1, none⟩ = some (.int .i64 (m + 1)) := hat 1 _ rfl
   have c2 : wr.cell? ⟨g, j * 4 + 2, none⟩ = some (.int .i64 (m + 1 + 1)) := hat 2 _ rfl
   have c3 : wr.cell? ⟨g, j * 4 + 3, none⟩ = some (.string (markB (m + 1 + 1 + 1))) := hat 3 _ rfl
   have HX : Hid (m + 4 ≤ 90000000 ∧ m + 4 = k + (cntL (fun _ : OpD => 4) (l.take (j + 1)) : Nat) ∧ a = some ⟨g, 0, none⟩ ∧ (markL mkOp (fun _ => 4) k l)[j]? = some (mkOp m x)) := ⟨by have := HR.out.2; have := HA.out.1; omega, by have := HA.out.1; omega, ha, hg⟩
   have m2 : m + 4 ≤ 90000000 := HX.out.1
   subst ha
   clear hx hcn hup hg hat
   go_wp2_with fail
   have HT : Hid (HeldOp3 w (some ⟨g, 0, none⟩) (markL mkOp (fun _ => 4) k l) g j (m + 1 + 1 + 1) wr.drew) := ⟨c3, (HR.out.1.below HA.out.2).below (Below.refl _ _).drew, HA.out.2.drew⟩
   clear c0 c1 c2 c3
   refine tame_region (HeldOp3 w (some ⟨g, 0, none⟩) (markL mkOp (fun _ => 4) k l) g j (m + 1 + 1 + 1)) (by kernel_rfl) HT.out ?_
   iterate 6 (refine yl (v := ?_) ?_ ?_; rotate_left; (intro w0 hS0; obtain ⟨q0, hH⟩ := hS0; go_simp; try with_reducible rfl); simp only [pt, sb, s0, s1])
   refine cl (.string (markB (m + 1 + 1 + 1))) 134 #[.int .i64 (m + 1 + 1 + 1)] ?_ ?_ ?_
   ·intro w0 hS0
    obtain ⟨q0, hH⟩ := hS0
    go_simp
    try with_reducible rfl
   ·intro w0 hS0
    refine (markText_any (m + 1 + 1 + 1) (by omega) (by omega) w0).mono ?_
    rintro e w2 ⟨rfl, hb2⟩
    exact ⟨rfl, (World.cell?_of_block (hb2.block g (block_lt_of_cell hS0.1))).trans hS0.1, hS0.2.out.1.below hb2, hS0.2.out.2.trans (hb2.mono hS0.2.out.2.size)⟩
   simp only [pt, sb, s0, s1]
   (refine yl (v := ?_) ?_ ?_; rotate_left; (intro w0 hS0; obtain ⟨q0, hH⟩ := hS0; go_simp; try with_reducible rfl); simp only [pt, sb, s0, s1])
   refine tame_done (by kernel_rfl) ?_ _
   intro w1 hS1
   have HZ : Hid (Below w.heap.size w w1) := hS1.2.out.2
   clear hS1 HT
   go_wp2
   go_roundw
   case rel => exact ⟨j + 1, m + 4, by omega, by go_num, by go_num, by omega, by omega, ⟨HX.out.2.1, HZ.out⟩⟩
   case measure => simp [intOf]; omega
  ·have i1 : ¬ (j : Int) < (l.length : Int) := by omega
   have HE : Hid (m = k + (cntL (fun _ : OpD => 4) l : Nat)) := by have h6 := HA.out.1; rw [List.take_of_length_le (by omega)] at h6; exact h6
   go_wp2
   go_ret
   exact ⟨ret_int HE.out, HA.out.2⟩

end Go.Proofs.YtkbcplnlehdjfaaGreat

/- Lists of the kind Proc, marked. (Made by mkmarkp.py.) -/
namespace Go.Proofs.YtkbcplnlehdjfaaGreat
open Go.RowKit
attribute [local go_sem ↓] Go.wp_at_zero Go.wp_at_succ

def cProc (x : ProcD) : Nat := 2 + cntL (fun _ : OpD => 4) x.prog + 9
def mkProcAt (k k2 : Int) (x : ProcD) : ProcD := { x with id := k, prio := k + 1, prog := markL mkOp (fun _ => 4) (k + 1 + 1) x.prog, state := k2, pc := k2 + 1, left := k2 + 1 + 1, wake := k2 + 1 + 1 + 1, on := k2 + 1 + 1 + 1 + 1, held := markB (k2 + 1 + 1 + 1 + 1 + 1), got := markB (k2 + 1 + 1 + 1 + 1 + 1 + 1), code := k2 + 1 + 1 + 1 + 1 + 1 + 1 + 1, since := k2 + 1 + 1 + 1 + 1 + 1 + 1 + 1 + 1 }
def mkProc (k : Int) (x : ProcD) : ProcD := mkProcAt k (k + 1 + 1 + (cntL (fun _ : OpD => 4) x.prog : Nat)) x
set_option maxRecDepth 100000 in
set_option maxHeartbeats 4000000 in
theorem markSProc_l (a : Option Addr) (l : List ProcD) (cap : Nat) (k : Int) (w : World) (base : Nat) (hl : l.length ≤ 1048576) (hk : ∀ x ∈ l, x.prog.length ≤ 1048576) (h0 : 1 ≤ k) (h1 : k + (cntL cProc l : Nat) ≤ 90000000) (ho : w.ownsRow base 43 12 (.slice a l.length cap) l.length (procK.flat l)) (hm : ∀ x ∈ l, procN.Mine w base x) (hn : (blk a ++ l.filterMap procN.kid).Nodup) :
  Calls Tryz.prog 128 #[.slice a l.length cap, .int .i64 k] w fun e w' => e = .returned (.int .i64 (k + (cntL cProc l : Nat))) ∧ w'.ownsRow base 43 12 (.slice a l.length cap) l.length (procK.flat (markL mkProc cProc k l)) ∧ (∀ y ∈ markL mkProc cProc k l, procN.Mine w' base y) ∧ KeptBut w w' (blk a ++ l.filterMap procN.kid) := by
 by_cases hz : l.length = 0
 ·have hl0 : l = [] := List.eq_nil_of_length_eq_zero hz
  subst hl0
  have HO : Hid (w.ownsRow base 43 12 (.slice a 0 cap) 0 (procK.flat [])) := ho
  clear ho
  go_enter Tryz.func128, Tryz.ntmps128
  go_wp2_with fail
  go_loopw [1, 5] (fun q i wr => q = .int .i64 k ∧ i = .int .i64 0 ∧ wr = w) (fun _ _ _ => 0)
  case atStart => exact ⟨rfl, rfl, rfl⟩
  case round =>
   obtain ⟨rfl, rfl, rfl⟩ := hrel
   go_wp2
   go_ret
   exact ⟨ret_int (by simp [cntL]), HO.out, (fun y hy => by cases hy), KeptBut.refl _ _⟩
 obtain ⟨g, rfl, hrow⟩ := RowAt.of_owns (K := procK) ho hz
 have HR : Hid (RowAt procK 43 w base g cap l ∧ Mines procN w base g l) := ⟨hrow, hm, hn⟩
 have HB : Hid (k + (cntL cProc l : Nat) ≤ 90000000 ∧ ∀ x ∈ l, x.prog.length ≤ 1048576) := ⟨h1, hk⟩
 clear ho hrow h1 hz hm hn hk
 go_enter Tryz.func128, Tryz.ntmps128
 go_wp2_with fail
 go_loopw [1, 5] (fun q i wr => ∃ (j : Nat) (m : Int), j ≤ l.length ∧ i = .int .i64 j ∧ q = .int .i64 m ∧ 1 ≤ m ∧ m ≤ 90000000 ∧ Hid (m = k + (cntL cProc (l.take j) : Nat) ∧ RowAt procK 43 wr base g cap (markL mkProc cProc k (l.take j) ++ l.drop j) ∧ Mines procN wr base g (markL mkProc cProc k (l.take j) ++ l.drop j) ∧ KeptBut w wr (g :: l.filterMap procN.kid))) (fun _ i _ => l.length - (intOf i).toNat)
 case atStart => exact ⟨0, k, Nat.zero_le _, rfl, rfl, h0, by have := HB.out.1; omega, ⟨by simp [cntL], HR.out.1, HR.out.2, KeptBut.refl _ _⟩⟩
 case round =>
  clear HR
  obtain ⟨j, m, hj, rfl, rfl, m0, m1, HA⟩ := hrel
  by_cases hlt : j < l.length
  ·have i0 : (0 : Int) ≤ (j : Int) := by omega
   have i1 : (j : Int) < (l.length : Int) := by omega
   obtain ⟨x, hx⟩ : ∃ x, l[j]? = some x := ⟨_, List.getElem?_eq_getElem hlt⟩
   have hdr : l.drop j = x :: l.drop (j + 1) := drop_at hx
   have hcn := cntL_take_lt (c := cProc) hx
   have hup := cntL_up (c := cProc) hx
   have hcx : cProc x = 2 + cntL (fun _ : OpD => 4) x.prog + 9 := rfl
   have HX : Hid (l[j]? = some x ∧ x.prog.length ≤ 1048576 ∧ m + 1 + 1 + (cntL (fun _ : OpD => 4) x.prog : Nat) + 9 ≤ 90000000 ∧ m + 1 + 1 + (cntL (fun _ : OpD => 4) x.prog : Nat) + 9 = k + (cntL cProc (l.take (j + 1)) : Nat)) := ⟨hx, HB.out.2 x (List.mem_of_getElem? hx), by have := HB.out.1; have := HA.out.1; omega, by have := HA.out.1; omega⟩
   have HW : Hid (RowAt procK 43 wr base g cap (markL mkProc cProc k (l.take j) ++ x :: l.drop (j + 1)) ∧ (markL mkProc cProc k (l.take j)).length = j) := ⟨by have := HA.out.2.1; rwa [hdr] at this, by rw [markL_length, List.length_take]; omega⟩
   have HM : Hid (Mines procN wr base g (markL mkProc cProc k (l.take j) ++ x :: l.drop (j + 1))) := by have := HA.out.2.2.1; rwa [hdr] at this
   have m2 : m + 1 + 1 ≤ 90000000 := by have := HX.out.2.2.1; omega
   have hgl : g < wr.heap.size := HW.out.1.lt
   clear hx hdr hcn hup hcx
   obtain ⟨⟨u0, c0⟩, f0⟩ : (∃ u, wr.cell? ⟨g, j * 12, none⟩ = some u) ∧ wr.frozen? ⟨g, j * 12, none⟩ = false := RowAt.at_mid HW.out.1 HW.out.2 (r := 0) (by decide : 0 < procK.n)
   obtain ⟨⟨u1, c1⟩, f1⟩ : (∃ u, wr.cell? ⟨g, j * 12 + 1, none⟩ = some u) ∧ wr.frozen? ⟨g, j * 12 + 1, none⟩ = false := RowAt.at_mid HW.out.1 HW.out.2 (r := 1) (by decide : 1 < procK.n)
   have c2 : wr.cell? ⟨g, j * 12 + 2, none⟩ = some (.slice x.progA x.prog.length x.progC) := (RowAt.mid_cell HW.out.1 HW.out.2 (r := 2) (by decide : 2 < procK.n))
   have h5 := RowAt.part (K := procK) (x := x) (y := ({ x with id := m, prio := m + 1 } : ProcD)) (j := 0) (vs := [.int .i64 m, .int .i64 (m + 1)]) HW.out.1 (by show 0 + 2 ≤ 12; omega) (fun r hr => by match r, hr with | 0, _ => rfl | 1, _ => rfl) (fun r hr hn => by match r, hr, hn with | 0, _, hn => exact absurd ⟨by omega, by show 0 < 0 + 2; omega⟩ hn | 1, _, hn => exact absurd ⟨by omega, by show 1 < 0 + 2; omega⟩ hn | 2, _, _ => rfl | 3, _, _ => rfl | 4, _, _ => rfl | 5, _, _ => rfl | 6, _, _ => rfl | 7, _, _ => rfl | 8, _, _ => rfl | 9, _, _ => rfl | 10, _, _ => rfl | 11, _, _ => rfl)
   rw [HW.out.2, show procK.n = 12 from rfl] at h5
   have h6 : KeptBut wr (setAllW wr g (j * 12) [.int .i64 m, .int .i64 (m + 1)]) [g] := KeptBut.set _ (by simp)
   simp only [setAllW, Nat.add_zero] at h5 h6
   have HS : Hid (RowAt procK 43 ((wr.setCell ⟨g, j * 12, none⟩ (.int .i64 m)).setCell ⟨g, j * 12 + 1, none⟩ (.int .i64 (m + 1))) base g cap (markL mkProc cProc k (l.take j) ++ ({ x with id := m, prio := m + 1 } : ProcD) :: l.drop (j + 1)) ∧ Mines procN ((wr.setCell ⟨g, j * 12, none⟩ (.int .i64 m)).setCell ⟨g, j * 12 + 1, none⟩ (.int .i64 (m + 1))) base g (markL mkProc cProc k (l.take j) ++ ({ x with id := m, prio := m + 1 } : ProcD) :: l.drop (j + 1)) ∧ KeptBut w ((wr.setCell ⟨g, j * 12, none⟩ (.int .i64 m)).setCell ⟨g, j * 12 + 1, none⟩ (.int .i64 (m + 1))) (g :: l.filterMap procN.kid)) := ⟨h5, (HM.out.keep h6).turn rfl ((HM.out.keep h6).mine x (by simp)), HA.out.2.2.2.trans (h6.mono (by simp))⟩
   clear h5 h6
   go_wp2_with fail
   generalize (wr.setCell ⟨g, j * 12, none⟩ (.int .i64 m)).setCell ⟨g, j * 12 + 1, none⟩ (.int .i64 (m + 1)) = W1 at *
   clear c2
   refine (markSOp_l x.progA x.prog x.progC (m + 1 + 1) W1 base HX.out.2.1 (by omega) (by have := HX.out.2.2.1; omega) (HS.out.2.1.mine ({ x with id := m, prio := m + 1 } : ProcD) (by simp))).mono ?_
   rintro e v ⟨rfl, hown, hkb⟩
   have HV : Hid (RowAt procK 43 v base g cap (markL mkProc cProc k (l.take j) ++ ({ x with id := m, prio := m + 1, prog := markL mkOp (fun _ => 4) (m + 1 + 1) x.prog } : ProcD) :: l.drop (j + 1)) ∧ Mines procN v base g (markL mkProc cProc k (l.take j) ++ ({ x with id := m, prio := m + 1, prog := markL mkOp (fun _ => 4) (m + 1 + 1) x.prog } : ProcD) :: l.drop (j + 1)) ∧ KeptBut w v (g :: l.filterMap procN.kid)) := by
    have hap := HS.out.2.1.apart (z := ({ x with id := m, prio := m + 1 } : ProcD)) (by simp)
    have h7 := HS.out.1.same (hkb.same g HS.out.1.lt hap)
    have hm7 : procN.Mine v base ({ x with id := m, prio := m + 1, prog := markL mkOp (fun _ => 4) (m + 1 + 1) x.prog } : ProcD) := by
     show v.ownsRow base _ 4 (.slice x.progA (markL mkOp (fun _ => 4) (m + 1 + 1) x.prog).length x.progC) (markL mkOp (fun _ => 4) (m + 1 + 1) x.prog).length (opK.flat (markL mkOp (fun _ => 4) (m + 1 + 1) x.prog))
     rw [markL_length]
     exact hown
    refine ⟨?_, HS.out.2.1.inner hkb rfl hm7, HS.out.2.2.trans (hkb.mono fun b hb => ?_)⟩
    ·exact RowAt.part (K := procK) (x := ({ x with id := m, prio := m + 1 } : ProcD)) (y := ({ x with id := m, prio := m + 1, prog := markL mkOp (fun _ => 4) (m + 1 + 1) x.prog } : ProcD)) (j := 0) (vs := []) h7 (by show 0 + 0 ≤ 12; omega) (fun r hr => absurd hr (by simp)) (fun r hr _ => by match r, hr with | 0, _ => rfl | 1, _ => rfl | 2, _ => (show some (Value.slice x.progA (markL mkOp (fun _ => 4) (m + 1 + 1) x.prog).length x.progC) = some (.slice x.progA x.prog.length x.progC); rw [markL_length]) | 3, _ => rfl | 4, _ => rfl | 5, _ => rfl | 6, _ => rfl | 7, _ => rfl | 8, _ => rfl | 9, _ => rfl | 10, _ => rfl | 11, _ => rfl)
    ·exact List.mem_cons_of_mem _ (List.mem_filterMap.2 ⟨x, List.mem_of_getElem? HX.out.1, mem_blk.1 hb⟩)
   obtain ⟨m', hm'⟩ : ∃ q : Int, q = m + 1 + 1 + (cntL (fun _ : OpD => 4) x.prog : Nat) := ⟨_, rfl⟩
   rw [← hm']
   have HQ : Hid (m' = m + 1 + 1 + (cntL (fun _ : OpD => 4) x.prog : Nat)) := hm'
   have p0 : 1 ≤ m' := by omega
   have p1 : m' + 9 ≤ 90000000 := by have := HX.out.2.2.1; omega
   clear hown hkb HS hm'
   obtain ⟨⟨u3, c3⟩, f3⟩ : (∃ u, v.cell? ⟨g, j * 12 + 3, none⟩ = some u) ∧ v.frozen? ⟨g, j * 12 + 3, none⟩ = false := RowAt.at_mid HV.out.1 HW.out.2 (r := 3) (by decide : 3 < procK.n)
   obtain ⟨⟨u4, c4⟩, f4⟩ : (∃ u, v.cell? ⟨g, j * 12 + 4, none⟩ = some u) ∧ v.frozen? ⟨g, j * 12 + 4, none⟩ = false := RowAt.at_mid HV.out.1 HW.out.2 (r := 4) (by decide : 4 < procK.n)
   obtain ⟨⟨u5, c5⟩, f5⟩ : (∃ u, v.cell? ⟨g, j * 12 + 5, none⟩ = some u) ∧ v.frozen? ⟨g, j * 12 + 5, none⟩ = false := RowAt.at_mid HV.out.1 HW.out.2 (r := 5) (by decide : 5 < procK.n)
   obtain ⟨⟨u6, c6⟩, f6⟩ : (∃ u, v.cell? ⟨g, j * 12 + 6, none⟩ = some u) ∧ v.frozen? ⟨g, j * 12 + 6, none⟩ = false := RowAt.at_mid HV.out.1 HW.out.2 (r := 6) (by decide : 6 < procK.n)
   obtain ⟨⟨u7, c7⟩, f7⟩ : (∃ u, v.cell? ⟨g, j * 12 + 7, none⟩ = some u) ∧ v.frozen? ⟨g, j * 12 + 7, none⟩ = false := RowAt.at_mid HV.out.1 HW.out.2 (r := 7) (by decide : 7 < procK.n)
   have h5 := RowAt.part (K := procK) (x := ({ x with id := m, prio := m + 1, prog := markL mkOp (fun _ => 4) (m + 1 + 1) x.prog } : ProcD)) (y := ({ x with id := m, prio := m + 1, prog := markL mkOp (fun _ => 4) (m + 1 + 1) x.prog, state := m', pc := m' + 1, left := m' + 1 + 1, wake := m' + 1 + 1 + 1, on := m' + 1 + 1 + 1 + 1 } : ProcD)) (j := 3) (vs := [.int .i64 (m'), .int .i64 (m' + 1), .int .i64 (m' + 1 + 1), .int .i64 (m' + 1 + 1 + 1), .int .i64 (m' + 1 + 1 + 1 + 1)]) HV.out.1 (by show 3 + 5 ≤ 12; omega) (fun r hr => by match r, hr with | 0, _ => rfl | 1, _ => rfl | 2, _ => rfl | 3, _ => rfl | 4, _ => rfl) (fun r hr hn => by match r, hr, hn with | 0, _, _ => rfl | 1, _, _ => rfl | 2, _, _ => rfl | 3, _, hn => exact absurd ⟨by omega, by show 3 < 3 + 5; omega⟩ hn | 4, _, hn => exact absurd ⟨by omega, by show 4 < 3 + 5; omega⟩ hn | 5, _, hn => exact absurd ⟨by omega, by show 5 < 3 + 5; omega⟩ hn | 6, _, hn => exact absurd ⟨by omega, by show 6 < 3 + 5; omega⟩ hn | 7, _, hn => exact absurd ⟨by omega, by show 7 < 3 + 5; omega⟩ hn | 8, _, _ => rfl | 9, _, _ => rfl | 10, _, _ => rfl | 11, _, _ => rfl)
   rw [HW.out.2, show procK.n = 12 from rfl] at h5
   have h6 : KeptBut v (setAllW v g (j * 12 + 3) [.int .i64 (m'), .int .i64 (m' + 1), .int .i64 (m' + 1 + 1), .int .i64 (m' + 1 + 1 + 1), .int .i64 (m' + 1 + 1 + 1 + 1)]) [g] := KeptBut.set _ (by simp)
   simp only [setAllW, Nat.add_assoc, Nat.reduceAdd] at h5 h6
   have HS1 : Hid (RowAt procK 43 (((((v.setCell ⟨g, j * 12 + 3, none⟩ (.int .i64 (m'))).setCell ⟨g, j * 12 + 4, none⟩ (.int .i64 (m' + 1))).setCell ⟨g, j * 12 + 5, none⟩ (.int .i64 (m' + 1 + 1))).setCell ⟨g, j * 12 + 6, none⟩ (.int .i64 (m' + 1 + 1 + 1))).setCell ⟨g, j * 12 + 7, none⟩ (.int .i64 (m' + 1 + 1 + 1 + 1))) base g cap (markL mkProc cProc k (l.take j) ++ ({ x with id := m, prio := m + 1, prog := markL mkOp (fun _ => 4) (m + 1 + 1) x.prog, state := m', pc := m' + 1, left := m' + 1 + 1, wake := m' + 1 + 1 + 1, on := m' + 1 + 1 + 1 + 1 } : ProcD) :: l.drop (j + 1)) ∧ Mines procN (((((v.setCell ⟨g, j * 12 + 3, none⟩ (.int .i64 (m'))).setCell ⟨g, j * 12 + 4, none⟩ (.int .i64 (m' + 1))).setCell ⟨g, j * 12 + 5, none⟩ (.int .i64 (m' + 1 + 1))).setCell ⟨g, j * 12 + 6, none⟩ (.int .i64 (m' + 1 + 1 + 1))).setCell ⟨g, j * 12 + 7, none⟩ (.int .i64 (m' + 1 + 1 + 1 + 1))) base g (markL mkProc cProc k (l.take j) ++ ({ x with id := m, prio := m + 1, prog := markL mkOp (fun _ => 4) (m + 1 + 1) x.prog, state := m', pc := m' + 1, left := m' + 1 + 1, wake := m' + 1 + 1 + 1, on := m' + 1 + 1 + 1 + 1 } : ProcD) :: l.drop (j + 1)) ∧ KeptBut w (((((v.setCell ⟨g, j * 12 + 3, none⟩ (.int .i64 (m'))).setCell ⟨g, j * 12 + 4, none⟩ (.int .i64 (m' + 1))).setCell ⟨g, j * 12 + 5, none⟩ (.int .i64 (m' + 1 + 1))).setCell ⟨g, j * 12 + 6, none⟩ (.int .i64 (m' + 1 + 1 + 1))).setCell ⟨g, j * 12 + 7, none⟩ (.int .i64 (m' + 1 + 1 + 1 + 1))) (g :: l.filterMap procN.kid)) := ⟨h5, (HV.out.2.1.keep h6).turn rfl ((HV.out.2.1.keep h6).mine ({ x with id := m, prio := m + 1, prog := markL mkOp (fun _ => 4) (m + 1 + 1) x.prog } : ProcD) (by simp)), HV.out.2.2.trans (h6.mono (by simp))⟩
   clear h5 h6
   go_wp2_with fail
   refine (markText_any (m' + 1 + 1 + 1 + 1 + 1) (by omega) (by omega) _).mono ?_
   rintro e v1 ⟨rfl, hb⟩
   have HT1 : Hid (RowAt procK 43 v1 base g cap (markL mkProc cProc k (l.take j) ++ ({ x with id := m, prio := m + 1, prog := markL mkOp (fun _ => 4) (m + 1 + 1) x.prog, state := m', pc := m' + 1, left := m' + 1 + 1, wake := m' + 1 + 1 + 1, on := m' + 1 + 1 + 1 + 1 } : ProcD) :: l.drop (j + 1)) ∧ Mines procN v1 base g (markL mkProc cProc k (l.take j) ++ ({ x with id := m, prio := m + 1, prog := markL mkOp (fun _ => 4) (m + 1 + 1) x.prog, state := m', pc := m' + 1, left := m' + 1 + 1, wake := m' + 1 + 1 + 1, on := m' + 1 + 1 + 1 + 1 } : ProcD) :: l.drop (j + 1)) ∧ KeptBut w v1 (g :: l.filterMap procN.kid)) := ⟨HS1.out.1.same (hb.block g HS1.out.1.lt), HS1.out.2.1.keep (KeptBut.of_below hb), HS1.out.2.2.trans (KeptBut.of_below hb)⟩
   clear hb
   obtain ⟨⟨u8, c8⟩, f8⟩ : (∃ u, v1.cell? ⟨g, j * 12 + 8, none⟩ = some u) ∧ v1.frozen? ⟨g, j * 12 + 8, none⟩ = false := RowAt.at_mid HT1.out.1 HW.out.2 (r := 8) (by decide : 8 < procK.n)
   have h5 := RowAt.part (K := procK) (x := ({ x with id := m, prio := m + 1, prog := markL mkOp (fun _ => 4) (m + 1 + 1) x.prog, state := m', pc := m' + 1, left := m' + 1 + 1, wake := m' + 1 + 1 + 1, on := m' + 1 + 1 + 1 + 1 } : ProcD)) (y := ({ x with id := m, prio := m + 1, prog := markL mkOp (fun _ => 4) (m + 1 + 1) x.prog, state := m', pc := m' + 1, left := m' + 1 + 1, wake := m' + 1 + 1 + 1, on := m' + 1 + 1 + 1 + 1, held := markB (m' + 1 + 1 + 1 + 1 + 1) } : ProcD)) (j := 8) (vs := [.string (markB (m' + 1 + 1 + 1 + 1 + 1))]) HT1.out.1 (by show 8 + 1 ≤ 12; omega) (fun r hr => by match r, hr with | 0, _ => rfl) (fun r hr hn => by match r, hr, hn with | 0, _, _ => rfl | 1, _, _ => rfl | 2, _, _ => rfl | 3, _, _ => rfl | 4, _, _ => rfl | 5, _, _ => rfl | 6, _, _ => rfl | 7, _, _ => rfl | 8, _, hn => exact absurd ⟨by omega, by show 8 < 8 + 1; omega⟩ hn | 9, _, _ => rfl | 10, _, _ => rfl | 11, _, _ => rfl)
   rw [HW.out.2, show procK.n = 12 from rfl] at h5
   have h6 : KeptBut v1 (setAllW v1 g (j * 12 + 8) [.string (markB (m' + 1 + 1 + 1 + 1 + 1))]) [g] := KeptBut.set _ (by simp)
   simp only [setAllW] at h5 h6
   have HS2 : Hid (RowAt procK 43 (v1.setCell ⟨g, j * 12 + 8, none⟩ (.string (markB (m' + 1 + 1 + 1 + 1 + 1)))) base g cap (markL mkProc cProc k (l.take j) ++ ({ x with id := m, prio := m + 1, prog := markL mkOp (fun _ => 4) (m + 1 + 1) x.prog, state := m', pc := m' + 1, left := m' + 1 + 1, wake := m' + 1 + 1 + 1, on := m' + 1 + 1 + 1 + 1, held := markB (m' + 1 + 1 + 1 + 1 + 1) } : ProcD) :: l.drop (j + 1)) ∧ Mines procN (v1.setCell ⟨g, j * 12 + 8, none⟩ (.string (markB (m' + 1 + 1 + 1 + 1 + 1)))) base g (markL mkProc cProc k (l.take j) ++ ({ x with id := m, prio := m + 1, prog := markL mkOp (fun _ => 4) (m + 1 + 1) x.prog, state := m', pc := m' + 1, left := m' + 1 + 1, wake := m' + 1 + 1 + 1, on := m' + 1 + 1 + 1 + 1, held := markB (m' + 1 + 1 + 1 + 1 + 1) } : ProcD) :: l.drop (j + 1)) ∧ KeptBut w (v1.setCell ⟨g, j * 12 + 8, none⟩ (.string (markB (m' + 1 + 1 + 1 + 1 + 1)))) (g :: l.filterMap procN.kid)) := ⟨h5, (HT1.out.2.1.keep h6).turn rfl ((HT1.out.2.1.keep h6).mine ({ x with id := m, prio := m + 1, prog := markL mkOp (fun _ => 4) (m + 1 + 1) x.prog, state := m', pc := m' + 1, left := m' + 1 + 1, wake := m' + 1 + 1 + 1, on := m' + 1 + 1 + 1 + 1 } : ProcD) (by simp)), HT1.out.2.2.trans (h6.mono (by simp))⟩
   clear h5 h6
   go_wp2_with fail
   refine (markText_any (m' + 1 + 1 + 1 + 1 + 1 + 1) (by omega) (by omega) _).mono ?_
   rintro e v2 ⟨rfl, hb⟩
   have HT2 : Hid (RowAt procK 43 v2 base g cap (markL mkProc cProc k (l.take j) ++ ({ x with id := m, prio := m + 1, prog := markL mkOp (fun _ => 4) (m + 1 + 1) x.prog, state := m', pc := m' + 1, left := m' + 1 + 1, wake := m' + 1 + 1 + 1, on := m' + 1 + 1 + 1 + 1, held := markB (m' + 1 + 1 + 1 + 1 + 1) } : ProcD) :: l.drop (j + 1)) ∧ Mines procN v2 base g (markL mkProc cProc k (l.take j) ++ ({ x with id := m, prio := m + 1, prog := markL mkOp (fun _ => 4) (m + 1 + 1) x.prog, state := m', pc := m' + 1, left := m' + 1 + 1, wake := m' + 1 + 1 + 1, on := m' + 1 + 1 + 1 + 1, held := markB (m' + 1 + 1 + 1 + 1 + 1) } : ProcD) :: l.drop (j + 1)) ∧ KeptBut w v2 (g :: l.filterMap procN.kid)) := ⟨HS2.out.1.same (hb.block g HS2.out.1.lt), HS2.out.2.1.keep (KeptBut.of_below hb), HS2.out.2.2.trans (KeptBut.of_below hb)⟩
   clear hb
   obtain ⟨⟨u9, c9⟩, f9⟩ : (∃ u, v2.cell? ⟨g, j * 12 + 9, none⟩ = some u) ∧ v2.frozen? ⟨g, j * 12 + 9, none⟩ = false := RowAt.at_mid HT2.out.1 HW.out.2 (r := 9) (by decide : 9 < procK.n)
   obtain ⟨⟨u10, c10⟩, f10⟩ : (∃ u, v2.cell? ⟨g, j * 12 + 10, none⟩ = some u) ∧ v2.frozen? ⟨g, j * 12 + 10, none⟩ = false := RowAt.at_mid HT2.out.1 HW.out.2 (r := 10) (by decide : 10 < procK.n)
   obtain ⟨⟨u11, c11⟩, f11⟩ : (∃ u, v2.cell? ⟨g, j * 12 + 11, none⟩ = some u) ∧ v2.frozen? ⟨g, j * 12 + 11, none⟩ = false := RowAt.at_mid HT2.out.1 HW.out.2 (r := 11) (by decide : 11 < procK.n)
   have h5 := RowAt.part (K := procK) (x := ({ x with id := m, prio := m + 1, prog := markL mkOp (fun _ => 4) (m + 1 + 1) x.prog, state := m', pc := m' + 1, left := m' + 1 + 1, wake := m' + 1 + 1 + 1, on := m' + 1 + 1 + 1 + 1, held := markB (m' + 1 + 1 + 1 + 1 + 1) } : ProcD)) (y := ({ x with id := m, prio := m + 1, prog := markL mkOp (fun _ => 4) (m + 1 + 1) x.prog, state := m', pc := m' + 1, left := m' + 1 + 1, wake := m' + 1 + 1 + 1, on := m' + 1 + 1 + 1 + 1, held := markB (m' + 1 + 1 + 1 + 1 + 1), got := markB (m' + 1 + 1 + 1 + 1 + 1 + 1), code := m' + 1 + 1 + 1 + 1 + 1 + 1 + 1, since := m' + 1 + 1 + 1 + 1 + 1 + 1 + 1 + 1 } : ProcD)) (j := 9) (vs := [.string (markB (m' + 1 + 1 + 1 + 1 + 1 + 1)), .int .i64 (m' + 1 + 1 + 1 + 1 + 1 + 1 + 1), .int .i64 (m' + 1 + 1 + 1 + 1 + 1 + 1 + 1 + 1)]) HT2.out.1 (by show 9 + 3 ≤ 12; omega) (fun r hr => by match r, hr with | 0, _ => rfl | 1, _ => rfl | 2, _ => rfl) (fun r hr hn => by match r, hr, hn with | 0, _, _ => rfl | 1, _, _ => rfl | 2, _, _ => rfl | 3, _, _ => rfl | 4, _, _ => rfl | 5, _, _ => rfl | 6, _, _ => rfl | 7, _, _ => rfl | 8, _, _ => rfl | 9, _, hn => exact absurd ⟨by omega, by show 9 < 9 + 3; omega⟩ hn | 10, _, hn => exact absurd ⟨by omega, by show 10 < 9 + 3; omega⟩ hn | 11, _, hn => exact absurd ⟨by omega, by show 11 < 9 + 3; omega⟩ hn)
   rw [HW.out.2, show procK.n = 12 from rfl] at h5
   have h6 : KeptBut v2 (setAllW v2 g (j * 12 + 9) [.string (markB (m' + 1 + 1 + 1 + 1 + 1 + 1)), .int .i64 (m' + 1 + 1 + 1 + 1 + 1 + 1 + 1), .int .i64 (m' + 1 + 1 + 1 + 1 + 1 + 1 + 1 + 1)]) [g] := KeptBut.set _ (by simp)
   simp only [setAllW, Nat.add_assoc, Nat.reduceAdd] at h5 h6
   have HS3 : Hid (RowAt procK 43 (((v2.setCell ⟨g, j * 12 + 9, none⟩ (.string (markB (m' + 1 + 1 + 1 + 1 + 1 + 1)))).setCell ⟨g, j * 12 + 10, none⟩ (.int .i64 (m' + 1 + 1 + 1 + 1 + 1 + 1 + 1))).setCell ⟨g, j * 12 + 11, none⟩ (.int .i64 (m' + 1 + 1 + 1 + 1 + 1 + 1 + 1 + 1))) base g cap (markL mkProc cProc k (l.take j) ++ ({ x with id := m, prio := m + 1, prog := markL mkOp (fun _ => 4) (m + 1 + 1) x.prog, state := m', pc := m' + 1, left := m' + 1 + 1, wake := m' + 1 + 1 + 1, on := m' + 1 + 1 + 1 + 1, held := markB (m' + 1 + 1 + 1 + 1 + 1), got := markB (m' + 1 + 1 + 1 + 1 + 1 + 1), code := m' + 1 + 1 + 1 + 1 + 1 + 1 + 1, since := m' + 1 + 1 + 1 + 1 + 1 + 1 + 1 + 1 } : ProcD) :: l.drop (j + 1)) ∧ Mines procN (((v2.setCell ⟨g, j * 12 + 9, none⟩ (.string (markB (m' + 1 + 1 + 1 + 1 + 1 + 1)))).setCell ⟨g, j * 12 + 10, none⟩ (.int .i64 (m' + 1 + 1 + 1 + 1 + 1 + 1 + 1))).setCell ⟨g, j * 12 + 11, none⟩ (.int .i64 (m' + 1 + 1 + 1 + 1 + 1 + 1 + 1 + 1))) base g (markL mkProc cProc k (l.take j) ++ ({ x with id := m, prio := m + 1, prog := markL mkOp (fun _ => 4) (m + 1 + 1) x.prog, state := m', pc := m' + 1, left := m' + 1 + 1, wake := m' + 1 + 1 + 1, on := m' + 1 + 1 + 1 + 1, held := markB (m' + 1 + 1 + 1 + 1 + 1), got := markB (m' + 1 + 1 + 1 + 1 + 1 + 1), code := m' + 1 + 1 + 1 + 1 + 1 + 1 + 1, since := m' + 1 + 1 + 1 + 1 + 1 + 1 + 1 + 1 } : ProcD) :: l.drop (j + 1)) ∧ KeptBut w (((v2.setCell ⟨g, j * 12 + 9, none⟩ (.string (markB (m' + 1 + 1 + 1 + 1 + 1 + 1)))).setCell ⟨g, j * 12 + 10, none⟩ (.int .i64 (m' + 1 + 1 + 1 + 1 + 1 + 1 + 1))).setCell ⟨g, j * 12 + 11, none⟩ (.int .i64 (m' + 1 + 1 + 1 + 1 + 1 + 1 + 1 + 1))) (g :: l.filterMap procN.kid)) := ⟨h5, (HT2.out.2.1.keep h6).turn rfl ((HT2.out.2.1.keep h6).mine ({ x with id := m, prio := m + 1, prog := markL mkOp (fun _ => 4) (m + 1 + 1) x.prog, state := m', pc := m' + 1, left := m' + 1 + 1, wake := m' + 1 + 1 + 1, on := m' + 1 + 1 + 1 + 1, held := markB (m' + 1 + 1 + 1 + 1 + 1) } : ProcD) (by simp)), HT2.out.2.2.trans (h6.mono (by simp))⟩
   clear h5 h6
   have HN : Hid (RowAt procK 43 (((v2.setCell ⟨g, j * 12 + 9, none⟩ (.string (markB (m' + 1 + 1 + 1 + 1 + 1 + 1)))).setCell ⟨g, j * 12 + 10, none⟩ (.int .i64 (m' + 1 + 1 + 1 + 1 + 1 + 1 + 1))).setCell ⟨g, j * 12 + 11, none⟩ (.int .i64 (m' + 1 + 1 + 1 + 1 + 1 + 1 + 1 + 1))) base g cap (markL mkProc cProc k (l.take (j + 1)) ++ l.drop (j + 1)) ∧ Mines procN (((v2.setCell ⟨g, j * 12 + 9, none⟩ (.string (markB (m' + 1 + 1 + 1 + 1 + 1 + 1)))).setCell ⟨g, j * 12 + 10, none⟩ (.int .i64 (m' + 1 + 1 + 1 + 1 + 1 + 1 + 1))).setCell ⟨g, j * 12 + 11, none⟩ (.int .i64 (m' + 1 + 1 + 1 + 1 + 1 + 1 + 1 + 1))) base g (markL mkProc cProc k (l.take (j + 1)) ++ l.drop (j + 1)) ∧ KeptBut w (((v2.setCell ⟨g, j * 12 + 9, none⟩ (.string (markB (m' + 1 + 1 + 1 + 1 + 1 + 1)))).setCell ⟨g, j * 12 + 10, none⟩ (.int .i64 (m' + 1 + 1 + 1 + 1 + 1 + 1 + 1))).setCell ⟨g, j * 12 + 11, none⟩ (.int .i64 (m' + 1 + 1 + 1 + 1 + 1 + 1 + 1 + 1))) (g :: l.filterMap procN.kid)) := by
    rw [markL_up HX.out.1, List.append_assoc, ← HA.out.1, show mkProc m x = mkProcAt m m' x by rw [HQ.out]; rfl]
    exact HS3.out
   go_wp2
   go_roundw
   case rel => exact ⟨j + 1, m' + 9, by omega, by go_num, by go_num, by omega, by omega, ⟨by have := HX.out.2.2.2; have := HQ.out; omega, HN.out.1, HN.out.2.1, HN.out.2.2⟩⟩
   case measure => simp [intOf]; omega
  ·have i1 : ¬ (j : Int) < (l.length : Int) := by omega
   have ej : j = l.length := by omega
   subst ej
   have HE : Hid (RowAt procK 43 wr base g cap (markL mkProc cProc k l) ∧ Mines procN wr base g (markL mkProc cProc k l) ∧ m = k + (cntL cProc l : Nat)) := by have h5 := HA.out.2.1; have h6 := HA.out.1; have h7 := HA.out.2.2.1; rw [List.take_length, List.drop_length, List.append_nil] at h5 h7; rw [List.take_length] at h6; exact ⟨h5, h7, h6⟩
   go_wp2
   go_ret
   refine ⟨ret_int HE.out.2.2, ?_, HE.out.2.1.mine, HA.out.2.2.2⟩
   have h7 := HE.out.1.owns
   rw [markL_length] at h7
   exact h7

end Go.Proofs.YtkbcplnlehdjfaaGreat

/- Lists of processes, read again behind their marks. (Made by mkhproc.py.) -/
namespace Go.Proofs.YtkbcplnlehdjfaaGreat
open Go.RowKit
attribute [local go_sem ↓] Go.wp_at_zero Go.wp_at_succ

def HeldP (w : World) (a : Option Addr) (l : List ProcD) (g j : Nat) (mm : Int) (w' : World) : Prop := (w'.cell? ⟨g, j * 12 + 8, none⟩ = some (.string (markB (mm + 1 + 1 + 1 + 1 + 1))) ∧ w'.cell? ⟨g, j * 12 + 9, none⟩ = some (.string (markB (mm + 1 + 1 + 1 + 1 + 1 + 1)))) ∧ Hid (procK.Lies w' a l ∧ Below w.heap.size w w')
set_option maxRecDepth 100000 in
set_option maxHeartbeats 4000000 in
theorem heldSProc_l (a : Option Addr) (l : List ProcD) (cap : Nat) (k : Int) (w : World) (hl : l.length ≤ 1048576) (hk : ∀ x ∈ l, x.prog.length ≤ 1048576) (h0 : 1 ≤ k) (h1 : k + (cntL cProc l : Nat) ≤ 90000000) (hr : procK.Lies w a (markL mkProc cProc k l)) :
  Calls Tryz.prog 135 #[.slice a l.length cap, .int .i64 k] w fun e w' => e = .returned (.int .i64 (k + (cntL cProc l : Nat))) ∧ Below w.heap.size w w' := by
 have HR : Hid (procK.Lies w a (markL mkProc cProc k l) ∧ k + (cntL cProc l : Nat) ≤ 90000000 ∧ ∀ x ∈ l, x.prog.length ≤ 1048576) := ⟨hr, h1, hk⟩
 clear hr h1 hk
 go_enter Tryz.func135, Tryz.ntmps135
 go_wp2_with fail
 go_loopw [1, 5] (fun q i wr => ∃ (j : Nat) (m : Int), j ≤ l.length ∧ i = .int .i64 j ∧ q = .int .i64 m ∧ 1 ≤ m ∧ m ≤ 90000000 ∧ Hid (m = k + (cntL cProc (l.take j) : Nat) ∧ Below w.heap.size w wr)) (fun _ i _ => l.length - (intOf i).toNat)
 case atStart => exact ⟨0, k, Nat.zero_le _, rfl, rfl, h0, by have := HR.out.2.1; omega, ⟨by simp [cntL], Below.refl _ _⟩⟩
 case round =>
  obtain ⟨j, m, hj, rfl, rfl, m0, m1, HA⟩ := hrel
  by_cases hlt : j < l.length
  ·have i0 : (0 : Int) ≤ (j : Int) := by omega
   have i1 : (j : Int) < (l.length : Int) := by omega
   obtain ⟨x, hx⟩ : ∃ x, l[j]? = some x := ⟨_, List.getElem?_eq_getElem hlt⟩
   have hcn := cntL_take_lt (c := cProc) hx
   have hup := cntL_up (c := cProc) hx
   have hcx : cProc x = 2 + cntL (fun _ : OpD => 4) x.prog + 9 := rfl
   have hg := markL_get (f := mkProc) (c := cProc) (k := k) hx
   rw [← HA.out.1] at hg
   have hls : procK.Lies wr a (markL mkProc cProc k l) := HR.out.1.below HA.out.2
   obtain ⟨g, ha, hat⟩ := hls.at hg
   obtain ⟨m', hm'⟩ : ∃ q : Int, q = m + 1 + 1 + (cntL (fun _ : OpD => 4) x.prog : Nat) := ⟨_, rfl⟩
   have hg2 : (markL mkProc cProc k l)[j]? = some (mkProcAt m m' x) := by rw [hg, hm']; rfl
   have c0 : wr.cell? ⟨g, j * 12, none⟩ = some (.int .i64 (m)) := hat 0 _ rfl
   have c1 : wr.cell? ⟨g, j * 12 + 1, none⟩ = some (.int .i64 (m + 1)) := hat 1 _ rfl
   have c2 : wr.cell? ⟨g, j * 12 + 2, none⟩ = some (.slice x.progA x.prog.length x.progC) := (hat 2 _ rfl).trans (show some (Value.slice x.progA (markL mkOp (fun _ => 4) (m + 1 + 1) x.prog).length x.progC) = _ by rw [markL_length])
   have HX : Hid (x.prog.length ≤ 1048576 ∧ m' + 9 ≤ 90000000 ∧ m' + 9 = k + (cntL cProc (l.take (j + 1)) : Nat) ∧ opK.Lies wr x.progA (markL mkOp (fun _ => 4) (m + 1 + 1) x.prog) ∧ (markL mkProc cProc k l)[j]? = some (mkProcAt m m' x) ∧ m' = m + 1 + 1 + (cntL (fun _ : OpD => 4) x.prog : Nat) ∧ procK.Lies wr (some ⟨g, 0, none⟩) (markL mkProc cProc k l)) := ⟨HR.out.2.2 x (List.mem_of_getElem? hx), by have := HR.out.2.1; have := HA.out.1; omega, by have := HA.out.1; omega, ⟨hls.2 _ (List.mem_of_getElem? hg) (x.progA, opK.flat (markL mkOp (fun _ => 4) (m + 1 + 1) x.prog)) (List.mem_singleton.2 rfl), fun _ _ r hr => by cases hr⟩, hg2, hm', ha ▸ hls⟩
   have p1 : m' + 9 ≤ 90000000 := HX.out.2.1
   have p0 : 1 ≤ m' := by omega
   have m2 : m + 1 + 1 ≤ 90000000 := by omega
   subst ha
   clear hx hcn hup hcx hg hat hls hg2 hm'
   go_wp2_with fail
   refine (heldSOp_l x.progA x.prog x.progC (m + 1 + 1) wr HX.out.1 (by omega) (by have := HX.out.2.1; have := HX.out.2.2.2.2.2.1; omega) HX.out.2.2.2.1).mono ?_
   rintro e v ⟨rfl, hb⟩
   rw [← HX.out.2.2.2.2.2.1]
   have HV : Hid (procK.Lies v (some ⟨g, 0, none⟩) (markL mkProc cProc k l) ∧ Below w.heap.size w v) := ⟨HX.out.2.2.2.2.2.2.below hb, HA.out.2.trans (hb.mono HA.out.2.size)⟩
   clear hb c0 c1 c2
   obtain ⟨g2, hg2, hat⟩ := HV.out.1.at HX.out.2.2.2.2.1
   cases hg2
   have c3 : v.cell? ⟨g, j * 12 + 3, none⟩ = some (.int .i64 (m')) := hat 3 _ rfl
   have c4 : v.cell? ⟨g, j * 12 + 4, none⟩ = some (.int .i64 (m' + 1)) := hat 4 _ rfl
   have c5 : v.cell? ⟨g, j * 12 + 5, none⟩ = some (.int .i64 (m' + 1 + 1)) := hat 5 _ rfl
   have c6 : v.cell? ⟨g, j * 12 + 6, none⟩ = some (.int .i64 (m' + 1 + 1 + 1)) := hat 6 _ rfl
   have c7 : v.cell? ⟨g, j * 12 + 7, none⟩ = some (.int .i64 (m' + 1 + 1 + 1 + 1)) := hat 7 _ rfl
   have c8 : v.cell? ⟨g, j * 12 + 8, none⟩ = some (.string (markB (m' + 1 + 1 + 1 + 1 + 1))) := hat 8 _ rfl
   have c9 : v.cell? ⟨g, j * 12 + 9, none⟩ = some (.string (markB (m' + 1 + 1 + 1 + 1 + 1 + 1))) := hat 9 _ rfl
   have c10 : v.cell? ⟨g, j * 12 + 10, none⟩ = some (.int .i64 (m' + 1 + 1 + 1 + 1 + 1 + 1 + 1)) := hat 10 _ rfl
   have c11 : v.cell? ⟨g, j * 12 + 11, none⟩ = some (.int .i64 (m' + 1 + 1 + 1 + 1 + 1 + 1 + 1 + 1)) := hat 11 _ rfl
   clear hat
   go_wp2_with fail
   have HT : Hid (HeldP w (some ⟨g, 0, none⟩) (markL mkProc cProc k l) g j m' v.drew) := ⟨⟨c8, c9⟩, HV.out.1.below (Below.refl _ _).drew, HV.out.2.drew⟩
   clear c3 c4 c5 c6 c7 c8 c9 c10 c11
   refine tame_region (HeldP w (some ⟨g, 0, none⟩) (markL mkProc cProc k l) g j m') (by kernel_rfl) HT.out ?_
   iterate 6 (refine yl (v := ?_) ?_ ?_; rotate_left; (intro w0 hS0; obtain ⟨⟨q8, q9⟩, hH⟩ := hS0; go_simp; try with_reducible rfl); simp only [pt, sb, s0, s1])
   refine cl (.string (markB (m' + 1 + 1 + 1 + 1 + 1))) 134 #[.int .i64 (m' + 1 + 1 + 1 + 1 + 1)] ?_ ?_ ?_
   ·intro w0 hS0
    obtain ⟨⟨q8, q9⟩, hH⟩ := hS0
    go_simp
    try with_reducible rfl
   ·intro w0 hS0
    refine (markText_any (m' + 1 + 1 + 1 + 1 + 1) (by omega) (by omega) w0).mono ?_
    rintro e w2 ⟨rfl, hb2⟩
    exact ⟨rfl, ⟨(World.cell?_of_block (hb2.block g (block_lt_of_cell hS0.1.1))).trans hS0.1.1, (World.cell?_of_block (hb2.block g (block_lt_of_cell hS0.1.1))).trans hS0.1.2⟩, hS0.2.out.1.below hb2, hS0.2.out.2.trans (hb2.mono hS0.2.out.2.size)⟩
   simp only [pt, sb, s0, s1]
   (refine yl (v := ?_) ?_ ?_; rotate_left; (intro w0 hS0; obtain ⟨⟨q8, q9⟩, hH⟩ := hS0; go_simp; try with_reducible rfl); simp only [pt, sb, s0, s1])
   refine tame_done (by kernel_rfl) ?_ _
   intro w1 hS1
   have HT1 : Hid (HeldP w (some ⟨g, 0, none⟩) (markL mkProc cProc k l) g j m' w1.drew) := ⟨hS1.1, hS1.2.out.1.below (Below.refl _ _).drew, hS1.2.out.2.drew⟩
   clear hS1 HT
   have HT := HT1
   clear HT1
   go_wp2_with fail
   refine tame_region (HeldP w (some ⟨g, 0, none⟩) (markL mkProc cProc k l) g j m') (by kernel_rfl) HT.out ?_
   iterate 6 (refine yl (v := ?_) ?_ ?_; rotate_left; (intro w0 hS0; obtain ⟨⟨q8, q9⟩, hH⟩ := hS0; go_simp; try with_reducible rfl); simp only [pt, sb, s0, s1])
   refine cl (.string (markB (m' + 1 + 1 + 1 + 1 + 1 + 1))) 134 #[.int .i64 (m' + 1 + 1 + 1 + 1 + 1 + 1)] ?_ ?_ ?_
   ·intro w0 hS0
    obtain ⟨⟨q8, q9⟩, hH⟩ := hS0
    go_simp
    try with_reducible rfl
   ·intro w0 hS0
    refine (markText_any (m' + 1 + 1 + 1 + 1 + 1 + 1) (by omega) (by omega) w0).mono ?_
    rintro e w2 ⟨rfl, hb2⟩
    exact ⟨rfl, ⟨(World.cell?_of_block (hb2.block g (block_lt_of_cell hS0.1.1))).trans hS0.1.1, (World.cell?_of_block (hb2.block g (block_lt_of_cell hS0.1.1))).trans hS0.1.2⟩, hS0.2.out.1.below hb2, hS0.2.out.2.trans (hb2.mono hS0.2.out.2.size)⟩
   simp only [pt, sb, s0, s1]
   (refine yl (v := ?_) ?_ ?_; rotate_left; (intro w0 hS0; obtain ⟨⟨q8, q9⟩, hH⟩ := hS0; go_simp; try with_reducible rfl); simp only [pt, sb, s0, s1])
   refine tame_done (by kernel_rfl) ?_ _
   intro w1 hS1
   obtain ⟨g2, hg2, hat⟩ := hS1.2.out.1.at HX.out.2.2.2.2.1
   cases hg2
   have c10 : w1.cell? ⟨g, j * 12 + 10, none⟩ = some (.int .i64 (m' + 1 + 1 + 1 + 1 + 1 + 1 + 1)) := hat 10 _ rfl
   have c11 : w1.cell? ⟨g, j * 12 + 11, none⟩ = some (.int .i64 (m' + 1 + 1 + 1 + 1 + 1 + 1 + 1 + 1)) := hat 11 _ rfl
   have HZ : Hid (Below w.heap.size w w1) := hS1.2.out.2
   clear hS1 hat HT
   go_wp2
   go_roundw
   case rel => exact ⟨j + 1, m' + 9, by omega, by go_num, by go_num, by omega, by omega, ⟨HX.out.2.2.1, HZ.out⟩⟩
   case measure => simp [intOf]; omega
  ·have i1 : ¬ (j : Int) < (l.length : Int) := by omega
   have HE : Hid (m = k + (cntL cProc l : Nat)) := by have h6 := HA.out.1; rw [List.take_of_length_le (by omega)] at h6; exact h6
   go_wp2
   go_ret
   exact ⟨ret_int HE.out, HA.out.2⟩

end Go.Proofs.YtkbcplnlehdjfaaGreat

/- Lists of the kind Sem, marked and read again. (Made by mkmark.py.) -/
namespace Go.Proofs.YtkbcplnlehdjfaaGreat
open Go.RowKit
attribute [local go_sem ↓] Go.wp_at_zero Go.wp_at_succ

/-- The mark of a thing. -/
def mkSem (k : Int) (_ : SemD) : SemD := ⟨k, k + 1, k + 1 + 1⟩
set_option maxRecDepth 100000 in
set_option maxHeartbeats 4000000 in
theorem markSSem_l (a : Option Addr) (l : List SemD) (cap : Nat) (k : Int) (w : World) (base : Nat) (hl : l.length ≤ 1048576) (h0 : 1 ≤ k) (h1 : k + (cntL (fun _ => 3) l : Nat) ≤ 90000000) (ho : w.ownsRow base 49 3 (.slice a l.length cap) l.length (semK.flat l)) :
  Calls Tryz.prog 129 #[.slice a l.length cap, .int .i64 k] w fun e w' => e = .returned (.int .i64 (k + (cntL (fun _ => 3) l : Nat))) ∧ w'.ownsRow base 49 3 (.slice a l.length cap) l.length (semK.flat (markL mkSem (fun _ => 3) k l)) ∧ KeptBut w w' (blk a) := by
 by_cases hz : l.length = 0
 ·have hl0 : l = [] := List.eq_nil_of_length_eq_zero hz
  subst hl0
  have HO : Hid (w.ownsRow base 49 3 (.slice a 0 cap) 0 (semK.flat [])) := ho
  clear ho
  go_enter Tryz.func129, Tryz.ntmps129
  go_wp2_with fail
  go_loopw [1, 5] (fun q i wr => q = .int .i64 k ∧ i = .int .i64 0 ∧ wr = w) (fun _ _ _ => 0)
  case atStart => exact ⟨rfl, rfl, rfl⟩
  case round =>
   obtain ⟨rfl, rfl, rfl⟩ := hrel
   go_wp2
   go_ret
   exact ⟨ret_int (by simp [cntL]), HO.out, KeptBut.refl _ _⟩
 obtain ⟨g, rfl, hrow⟩ := RowAt.of_owns (K := semK) ho hz
 have HR : Hid (RowAt semK 49 w base g cap l) := hrow
 have HB : Hid (k + (cntL (fun _ : SemD => 3) l : Nat) ≤ 90000000) := h1
 clear ho hrow h1 hz
 go_enter Tryz.func129, Tryz.ntmps129
 go_wp2_with fail
 go_loopw [1, 5] (fun q i wr => ∃ (j : Nat) (m : Int), j ≤ l.length ∧ i = .int .i64 j ∧ q = .int .i64 m ∧ 1 ≤ m ∧ m ≤ 90000000 ∧ Hid (m = k + (cntL (fun _ : SemD => 3) (l.take j) : Nat) ∧ RowAt semK 49 wr base g cap (markL mkSem (fun _ => 3) k (l.take j) ++ l.drop j) ∧ KeptBut w wr [g])) (fun _ i _ => l.length - (intOf i).toNat)
 case atStart => exact ⟨0, k, Nat.zero_le _, rfl, rfl, h0, by have := HB.out; omega, ⟨by simp [cntL], HR.out, KeptBut.refl _ _⟩⟩
 case round =>
  clear HR
  obtain ⟨j, m, hj, rfl, rfl, m0, m1, HA⟩ := hrel
  by_cases hlt : j < l.length
  ·have i0 : (0 : Int) ≤ (j : Int) := by omega
   have i1 : (j : Int) < (l.length : Int) := by omega
   obtain ⟨x, hx⟩ : ∃ x, l[j]? = some x := ⟨_, List.getElem?_eq_getElem hlt⟩
   have hdr : l.drop j = x :: l.drop (j + 1) := drop_at hx
   have hcn := cntL_take_lt (c := fun _ : SemD => 3) hx
   have hup := cntL_up (c := fun _ : SemD => 3) hx
   have HX : Hid (l[j]? = some x ∧ m + 3 ≤ 90000000 ∧ m + 3 = k + (cntL (fun _ : SemD => 3) (l.take (j + 1)) : Nat)) := ⟨hx, by have := HB.out; have := HA.out.1; omega, by have := HA.out.1; omega⟩
   have HW : Hid (RowAt semK 49 wr base g cap (markL mkSem (fun _ => 3) k (l.take j) ++ x :: l.drop (j + 1)) ∧ (markL mkSem (fun _ => 3) k (l.take j)).length = j) := ⟨by have := HA.out.2.1; rwa [hdr] at this, by rw [markL_length, List.length_take]; omega⟩
   clear hx hdr hcn hup
   have m2 : m + 3 ≤ 90000000 := HX.out.2.1
   have hgl : g < wr.heap.size := HW.out.1.lt
   have q0 := RowAt.at_mid HW.out.1 HW.out.2 (r := 0) (by decide : 0 < semK.n)
   obtain ⟨⟨u0, c0⟩, f0⟩ : (∃ u, wr.cell? ⟨g, j * 3, none⟩ = some u) ∧ wr.frozen? ⟨g, j * 3, none⟩ = false := q0
   have q1 := RowAt.at_mid HW.out.1 HW.out.2 (r := 1) (by decide : 1 < semK.n)
   obtain ⟨⟨u1, c1⟩, f1⟩ : (∃ u, wr.cell? ⟨g, j * 3 + 1, none⟩ = some u) ∧ wr.frozen? ⟨g, j * 3 + 1, none⟩ = false := q1
   have q2 := RowAt.at_mid HW.out.1 HW.out.2 (r := 2) (by decide : 2 < semK.n)
   obtain ⟨⟨u2, c2⟩, f2⟩ : (∃ u, wr.cell? ⟨g, j * 3 + 2, none⟩ = some u) ∧ wr.frozen? ⟨g, j * 3 + 2, none⟩ = false := q2
   have h5 := RowAt.part (K := semK) (x := (⟨x.id, x.n, x.max⟩ : SemD)) (y := (⟨m, m + 1, m + 1 + 1⟩ : SemD)) (j := 0) (vs := [.int .i64 (m), .int .i64 (m + 1), .int .i64 (m + 1 + 1)]) HW.out.1 (by show 0 + 3 ≤ 3; omega) (fun r hr => by match r, hr with | 0, _ => rfl | 1, _ => rfl | 2, _ => rfl) (fun r hr hn => by match r, hr, hn with | 0, _, hn => exact absurd ⟨by omega, by show 0 < 0 + 3; omega⟩ hn | 1, _, hn => exact absurd ⟨by omega, by show 1 < 0 + 3; omega⟩ hn | 2, _, hn => exact absurd ⟨by omega, by show 2 < 0 + 3; omega⟩ hn )
   rw [HW.out.2, show semK.n = 3 from rfl] at h5
   simp only [setAllW, Nat.add_assoc, Nat.reduceAdd, Nat.add_zero] at h5
   have HS0 : Hid (RowAt semK 49 (((wr.setCell ⟨g, j * 3, none⟩ (.int .i64 (m))).setCell ⟨g, j * 3 + 1, none⟩ (.int .i64 (m + 1))).setCell ⟨g, j * 3 + 2, none⟩ (.int .i64 (m + 1 + 1))) base g cap (markL mkSem (fun _ => 3) k (l.take j) ++ (⟨m, m + 1, m + 1 + 1⟩ : SemD) :: l.drop (j + 1)) ∧ (markL mkSem (fun _ => 3) k (l.take j)).length = j) := ⟨h5, HW.out.2⟩
   have h6 : KeptBut w (setAllW wr g (j * 3) [.int .i64 (m), .int .i64 (m + 1), .int .i64 (m + 1 + 1)]) [g] := HA.out.2.2.trans (KeptBut.set _ (by simp))
   simp only [setAllW, Nat.add_assoc, Nat.reduceAdd] at h6
   have HS0K : Hid (KeptBut w (((wr.setCell ⟨g, j * 3, none⟩ (.int .i64 (m))).setCell ⟨g, j * 3 + 1, none⟩ (.int .i64 (m + 1))).setCell ⟨g, j * 3 + 2, none⟩ (.int .i64 (m + 1 + 1))) [g]) := h6
   clear h6
   clear h5
   have HN : Hid (RowAt semK 49 (((wr.setCell ⟨g, j * 3, none⟩ (.int .i64 (m))).setCell ⟨g, j * 3 + 1, none⟩ (.int .i64 (m + 1))).setCell ⟨g, j * 3 + 2, none⟩ (.int .i64 (m + 1 + 1))) base g cap (markL mkSem (fun _ => 3) k (l.take (j + 1)) ++ l.drop (j + 1)) ∧ KeptBut w (((wr.setCell ⟨g, j * 3, none⟩ (.int .i64 (m))).setCell ⟨g, j * 3 + 1, none⟩ (.int .i64 (m + 1))).setCell ⟨g, j * 3 + 2, none⟩ (.int .i64 (m + 1 + 1))) [g]) := ⟨by rw [markL_up HX.out.1, List.append_assoc, ← HA.out.1]; exact HS0.out.1, HS0K.out⟩
   go_wp2
   go_roundw
   case rel => exact ⟨j + 1, m + 3, by omega, by go_num, by go_num, by omega, by omega, ⟨HX.out.2.2, HN.out.1, HN.out.2⟩⟩
   case measure => simp [intOf]; omega
  ·have i1 : ¬ (j : Int) < (l.length : Int) := by omega
   have ej : j = l.length := by omega
   subst ej
   have HE : Hid (RowAt semK 49 wr base g cap (markL mkSem (fun _ => 3) k l) ∧ m = k + (cntL (fun _ : SemD => 3) l : Nat)) := by have h5 := HA.out.2.1; have h6 := HA.out.1; rw [List.take_length, List.drop_length, List.append_nil] at h5; rw [List.take_length] at h6; exact ⟨h5, h6⟩
   go_wp2
   go_ret
   refine ⟨ret_int HE.out.2, ?_, HA.out.2.2.mono (by simp [blk])⟩
   have h7 := HE.out.1.owns
   rw [markL_length] at h7
   exact h7
set_option maxRecDepth 100000 in
set_option maxHeartbeats 4000000 in
theorem heldSSem_l (a : Option Addr) (l : List SemD) (cap : Nat) (k : Int) (w : World) (hl : l.length ≤ 1048576) (h0 : 1 ≤ k) (h1 : k + (cntL (fun _ => 3) l : Nat) ≤ 90000000) (hr : semK.Lies w a (markL mkSem (fun _ => 3) k l)) :
  Calls Tryz.prog 136 #[.slice a l.length cap, .int .i64 k] w fun e w' => e = .returned (.int .i64 (k + (cntL (fun _ => 3) l : Nat))) ∧ Below w.heap.size w w' := by
 have HR : Hid (semK.Lies w a (markL mkSem (fun _ => 3) k l) ∧ k + (cntL (fun _ : SemD => 3) l : Nat) ≤ 90000000) := ⟨hr, h1⟩
 clear hr h1
 go_enter Tryz.func136, Tryz.ntmps136
 go_wp2_with fail
 go_loopw [1, 5] (fun q i wr => ∃ (j : Nat) (m : Int), j ≤ l.length ∧ i = .int .i64 j ∧ q = .int .i64 m ∧ 1 ≤ m ∧ m ≤ 90000000 ∧ Hid (m = k + (cntL (fun _ : SemD => 3) (l.take j) : Nat) ∧ Below w.heap.size w wr)) (fun _ i _ => l.length - (intOf i).toNat)
 case atStart => exact ⟨0, k, Nat.zero_le _, rfl, rfl, h0, by have := HR.out.2; omega, ⟨by simp [cntL], Below.refl _ _⟩⟩
 case round =>
  obtain ⟨j, m, hj, rfl, rfl, m0, m1, HA⟩ := hrel
  by_cases hlt : j < l.length
  ·have i0 : (0 : Int) ≤ (j : Int) := by omega
   have i1 : (j : Int) < (l.length : Int) := by omega
   obtain ⟨x, hx⟩ : ∃ x, l[j]? = some x := ⟨_, List.getElem?_eq_getElem hlt⟩
   have hcn := cntL_take_lt (c := fun _ : SemD => 3) hx
   have hup := cntL_up (c := fun _ : SemD => 3) hx
   have hg := markL_get (f := mkSem) (c := fun _ : SemD => 3) (k := k) hx
   rw [← HA.out.1] at hg
   obtain ⟨g, ha, hat⟩ := (HR.out.1.below HA.out.2).at hg
   have c0 : wr.cell? ⟨g, j * 3, none⟩ = some (.int .i64 (m)) := hat 0 _ rfl
   have c1 : wr.cell? ⟨g, j * 3 + 1, none⟩ = some (.int .i64 (m + 1)) := hat 1 _ rfl
   have c2 : wr.cell? ⟨g, j * 3 + 2, none⟩ = some (.int .i64 (m + 1 + 1)) := hat 2 _ rfl
   have HX : Hid (m + 3 ≤ 90000000 ∧ m + 3 = k + (cntL (fun _ : SemD => 3) (l.take (j + 1)) : Nat) ∧ a = some ⟨g, 0, none⟩ ∧ (markL mkSem (fun _ => 3) k l)[j]? = some (mkSem m x)) := ⟨by have := HR.out.2; have := HA.out.1; omega, by have := HA.out.1; omega, ha, hg⟩
   have m2 : m + 3 ≤ 90000000 := HX.out.1
   subst ha
   clear hx hcn hup hg hat
   go_wp2
   go_roundw
   case rel => exact ⟨j + 1, m + 3, by omega, by go_num, by go_num, by omega, by omega, ⟨HX.out.2.1, HA.out.2⟩⟩
   case measure => simp [intOf]; omega
  ·have i1 : ¬ (j : Int) < (l.length : Int) := by omega
   have HE : Hid (m = k + (cntL (fun _ : SemD => 3) l : Nat)) := by have h6 := HA.out.1; rw [List.take_of_length_le (by omega)] at h6; exact h6
   go_wp2
   go_ret
   exact ⟨ret_int HE.out, HA.out.2⟩

end Go.Proofs.YtkbcplnlehdjfaaGreat

/- Lists of the kind Event, marked and read again. (Made by mkmark.py.) -/
namespace Go.Proofs.YtkbcplnlehdjfaaGreat
open Go.RowKit
attribute [local go_sem ↓] Go.wp_at_zero Go.wp_at_succ

/-- The mark of a thing. -/
def mkEvent (k : Int) (_ : EventD) : EventD := ⟨k, (k + 1) % 3 == 0⟩
set_option maxRecDepth 100000 in
set_option maxHeartbeats 4000000 in
theorem markSEvent_l (a : Option Addr) (l : List EventD) (cap : Nat) (k : Int) (w : World) (base : Nat) (hl : l.length ≤ 1048576) (h0 : 1 ≤ k) (h1 : k + (cntL (fun _ => 2) l : Nat) ≤ 90000000) (ho : w.ownsRow base 138 2 (.slice a l.length cap) l.length (eventK.flat l)) :
  Calls Tryz.prog 130 #[.slice a l.length cap, .int .i64 k] w fun e w' => e = .returned (.int .i64 (k + (cntL (fun _ => 2) l : Nat))) ∧ w'.ownsRow base 138 2 (.slice a l.length cap) l.length (eventK.flat (markL mkEvent (fun _ => 2) k l)) ∧ KeptBut w w' (blk a) := by
 by_cases hz : l.length = 0
 ·have hl0 : l = [] := List.eq_nil_of_length_eq_zero hz
  subst hl0
  have HO : Hid (w.ownsRow base 138 2 (.slice a 0 cap) 0 (eventK.flat [])) := ho
  clear ho
  go_enter Tryz.func130, Tryz.ntmps130
  go_wp2_with fail
  go_loopw [1, 5] (fun q i wr => q = .int .i64 k ∧ i = .int .i64 0 ∧ wr = w) (fun _ _ _ => 0)
  case atStart => exact ⟨rfl, rfl, rfl⟩
  case round =>
   obtain ⟨rfl, rfl, rfl⟩ := hrel
   go_wp2
   go_ret
   exact ⟨ret_int (by simp [cntL]), HO.out, KeptBut.refl _ _⟩
 obtain ⟨g, rfl, hrow⟩ := RowAt.of_owns (K := eventK) ho hz
 have HR : Hid (RowAt eventK 138 w base g cap l) := hrow
 have HB : Hid (k + (cntL (fun _ : EventD => 2) l : Nat) ≤ 90000000) := h1
 clear ho hrow h1 hz
 go_enter Tryz.func130, Tryz.ntmps130
 go_wp2_with fail
 go_loopw [1, 5] (fun q i wr => ∃ (j : Nat) (m : Int), j ≤ l.length ∧ i = .int .i64 j ∧ q = .int .i64 m ∧ 1 ≤ m ∧ m ≤ 90000000 ∧ Hid (m = k + (cntL (fun _ : EventD => 2) (l.take j) : Nat) ∧ RowAt eventK 138 wr base g cap (markL mkEvent (fun _ => 2) k (l.take j) ++ l.drop j) ∧ KeptBut w wr [g])) (fun _ i _ => l.length - (intOf i).toNat)
 case atStart => exact ⟨0, k, Nat.zero_le _, rfl, rfl, h0, by have := HB.out; omega, ⟨by simp [cntL], HR.out, KeptBut.refl _ _⟩⟩
 case round =>
  clear HR
  obtain ⟨j, m, hj, rfl, rfl, m0, m1, HA⟩ := hrel
  by_cases hlt : j < l.length
  ·have i0 : (0 : Int) ≤ (j : Int) := by omega
   have i1 : (j : Int) < (l.length : Int) := by omega
   obtain ⟨x, hx⟩ : ∃ x, l[j]? = some x := ⟨_, List.getElem?_eq_getElem hlt⟩
   have hdr : l.drop j = x :: l.drop (j + 1) := drop_at hx
   have hcn := cntL_take_lt (c := fun _ : EventD => 2) hx
   have hup := cntL_up (c := fun _ : EventD => 2) hx
   have HX : Hid (l[j]? = some x ∧ m + 2 ≤ 90000000 ∧ m + 2 = k + (cntL (fun _ : EventD => 2) (l.take (j + 1)) : Nat)) := ⟨hx, by have := HB.out; have := HA.out.1; omega, by have := HA.out.1; omega⟩
   have HW : Hid (RowAt eventK 138 wr base g cap (markL mkEvent (fun _ => 2) k (l.take j) ++ x :: l.drop (j + 1)) ∧ (markL mkEvent (fun _ => 2) k (l.take j)).length = j) := ⟨by have := HA.out.2.1; rwa [hdr] at this, by rw [markL_length, List.length_take]; omega⟩
   clear hx hdr hcn hup
   have m2 : m + 2 ≤ 90000000 := HX.out.2.1
   have hgl : g < wr.heap.size := HW.out.1.lt
   have q0 := RowAt.at_mid HW.out.1 HW.out.2 (r := 0) (by decide : 0 < eventK.n)
   obtain ⟨⟨u0, c0⟩, f0⟩ : (∃ u, wr.cell? ⟨g, j * 2, none⟩ = some u) ∧ wr.frozen? ⟨g, j * 2, none⟩ = false := q0
   have q1 := RowAt.at_mid HW.out.1 HW.out.2 (r := 1) (by decide : 1 < eventK.n)
   obtain ⟨⟨u1, c1⟩, f1⟩ : (∃ u, wr.cell? ⟨g, j * 2 + 1, none⟩ = some u) ∧ wr.frozen? ⟨g, j * 2 + 1, none⟩ = false := q1
   have h5 := RowAt.part (K := eventK) (x := (⟨x.id, x.up⟩ : EventD)) (y := (⟨m, (m + 1) % 3 == 0⟩ : EventD)) (j := 0) (vs := [.int .i64 (m), .bool ((m + 1) % 3 == 0)]) HW.out.1 (by show 0 + 2 ≤ 2; omega) (fun r hr => by match r, hr with | 0, _ => rfl | 1, _ => rfl) (fun r hr hn => by match r, hr, hn with | 0, _, hn => exact absurd ⟨by omega, by show 0 < 0 + 2; omega⟩ hn | 1, _, hn => exact absurd ⟨by omega, by show 1 < 0 + 2; omega⟩ hn )
   rw [HW.out.2, show eventK.n = 2 from rfl] at h5
   simp only [setAllW, Nat.add_zero] at h5
   have HS0 : Hid (RowAt eventK 138 ((wr.setCell ⟨g, j * 2, none⟩ (.int .i64 (m))).setCell ⟨g, j * 2 + 1, none⟩ (.bool ((m + 1) % 3 == 0))) base g cap (markL mkEvent (fun _ => 2) k (l.take j) ++ (⟨m, (m + 1) % 3 == 0⟩ : EventD) :: l.drop (j + 1)) ∧ (markL mkEvent (fun _ => 2) k (l.take j)).length = j) := ⟨h5, HW.out.2⟩
   have h6 : KeptBut w (setAllW wr g (j * 2) [.int .i64 (m), .bool ((m + 1) % 3 == 0)]) [g] := HA.out.2.2.trans (KeptBut.set _ (by simp))
   simp only [setAllW] at h6
   have HS0K : Hid (KeptBut w ((wr.setCell ⟨g, j * 2, none⟩ (.int .i64 (m))).setCell ⟨g, j * 2 + 1, none⟩ (.bool ((m + 1) % 3 == 0))) [g]) := h6
   clear h6
   clear h5
   have HN : Hid (RowAt eventK 138 ((wr.setCell ⟨g, j * 2, none⟩ (.int .i64 (m))).setCell ⟨g, j * 2 + 1, none⟩ (.bool ((m + 1) % 3 == 0))) base g cap (markL mkEvent (fun _ => 2) k (l.take (j + 1)) ++ l.drop (j + 1)) ∧ KeptBut w ((wr.setCell ⟨g, j * 2, none⟩ (.int .i64 (m))).setCell ⟨g, j * 2 + 1, none⟩ (.bool ((m + 1) % 3 == 0))) [g]) := ⟨by rw [markL_up HX.out.1, List.append_assoc, ← HA.out.1]; exact HS0.out.1, HS0K.out⟩
   go_wp2
   go_roundw
   case rel => exact ⟨j + 1, m + 2, by omega, by go_num, by go_num, by omega, by omega, ⟨HX.out.2.2, HN.out.1, HN.out.2⟩⟩
   case measure => simp [intOf]; omega
  ·have i1 : ¬ (j : Int) < (l.length : Int) := by omega
   have ej : j = l.length := by omega
   subst ej
   have HE : Hid (RowAt eventK 138 wr base g cap (markL mkEvent (fun _ => 2) k l) ∧ m = k + (cntL (fun _ : EventD => 2) l : Nat)) := by have h5 := HA.out.2.1; have h6 := HA.out.1; rw [List.take_length, List.drop_length, List.append_nil] at h5; rw [List.take_length] at h6; exact ⟨h5, h6⟩
   go_wp2
   go_ret
   refine ⟨ret_int HE.out.2, ?_, HA.out.2.2.mono (by simp [blk])⟩
   have h7 := HE.out.1.owns
   rw [markL_length] at h7
   exact h7
set_option maxRecDepth 100000 in
set_option maxHeartbeats 4000000 in
theorem heldSEvent_l (a : Option Addr) (l : List EventD) (cap : Nat) (k : Int) (w : World) (hl : l.length ≤ 1048576) (h0 : 1 ≤ k) (h1 : k + (cntL (fun _ => 2) l : Nat) ≤ 90000000) (hr : eventK.Lies w a (markL mkEvent (fun _ => 2) k l)) :
  Calls Tryz.prog 137 #[.slice a l.length cap, .int .i64 k] w fun e w' => e = .returned (.int .i64 (k + (cntL (fun _ => 2) l : Nat))) ∧ Below w.heap.size w w' := by
 have HR : Hid (eventK.Lies w a (markL mkEvent (fun _ => 2) k l) ∧ k + (cntL (fun _ : EventD => 2) l : Nat) ≤ 90000000) := ⟨hr, h1⟩
 clear hr h1
 go_enter Tryz.func137, Tryz.ntmps137
 go_wp2_with fail
 go_loopw [1, 5] (fun q i wr => ∃ (j : Nat) (m : Int), j ≤ l.length ∧ i = .int .i64 j ∧ q = .int .i64 m ∧ 1 ≤ m ∧ m ≤ 90000000 ∧ Hid (m = k + (cntL (fun _ : EventD => 2) (l.take j) : Nat) ∧ Below w.heap.size w wr)) (fun _ i _ => l.length - (intOf i).toNat)
 case atStart => exact ⟨0, k, Nat.zero_le _, rfl, rfl, h0, by have := HR.out.2; omega, ⟨by simp [cntL], Below.refl _ _⟩⟩
 case round =>
  obtain ⟨j, m, hj, rfl, rfl, m0, m1, HA⟩ := hrel
  by_cases hlt : j < l.length
  ·have i0 : (0 : Int) ≤ (j : Int) := by omega
   have i1 : (j : Int) < (l.length : Int) := by omega
   obtain ⟨x, hx⟩ : ∃ x, l[j]? = some x := ⟨_, List.getElem?_eq_getElem hlt⟩
   have hcn := cntL_take_lt (c := fun _ : EventD => 2) hx
   have hup := cntL_up (c := fun _ : EventD => 2) hx
   have hg := markL_get (f := mkEvent) (c := fun _ : EventD => 2) (k := k) hx
   rw [← HA.out.1] at hg
   obtain ⟨g, ha, hat⟩ := (HR.out.1.below HA.out.2).at hg
   have c0 : wr.cell? ⟨g, j * 2, none⟩ = some (.int .i64 (m)) := hat 0 _ rfl
   have c1 : wr.cell? ⟨g, j * 2 + 1, none⟩ = some (.bool ((m + 1) % 3 == 0)) := hat 1 _ rfl
   have HX : Hid (m + 2 ≤ 90000000 ∧ m + 2 = k + (cntL (fun _ : EventD => 2) (l.take (j + 1)) : Nat) ∧ a = some ⟨g, 0, none⟩ ∧ (markL mkEvent (fun _ => 2) k l)[j]? = some (mkEvent m x)) := ⟨by have := HR.out.2; have := HA.out.1; omega, by have := HA.out.1; omega, ha, hg⟩
   have m2 : m + 2 ≤ 90000000 := HX.out.1
   subst ha
   clear hx hcn hup hg hat
   go_wp2
   go_roundw
   case rel => exact ⟨j + 1, m + 2, by omega, by go_num, by go_num, by omega, by omega, ⟨HX.out.2.1, HA.out.2⟩⟩
   case measure => simp [intOf]; omega
  ·have i1 : ¬ (j : Int) < (l.length : Int) := by omega
   have HE : Hid (m = k + (cntL (fun _ : EventD => 2) l : Nat)) := by have h6 := HA.out.1; rw [List.take_of_length_le (by omega)] at h6; exact h6
   go_wp2
   go_ret
   exact ⟨ret_int HE.out, HA.out.2⟩

end Go.Proofs.YtkbcplnlehdjfaaGreat

/- Lists of the kind Board, marked and read again. (Made by mkmark.py.) -/
namespace Go.Proofs.YtkbcplnlehdjfaaGreat
open Go.RowKit
attribute [local go_sem ↓] Go.wp_at_zero Go.wp_at_succ

/-- The mark of a thing. -/
def mkBoard (k : Int) (_ : BoardD) : BoardD := ⟨k, (k + 1) % 3 == 0, markB (k + 1 + 1)⟩
set_option maxRecDepth 100000 in
set_option maxHeartbeats 4000000 in
theorem markSBoard_l (a : Option Addr) (l : List BoardD) (cap : Nat) (k : Int) (w : World) (base : Nat) (hl : l.length ≤ 1048576) (h0 : 1 ≤ k) (h1 : k + (cntL (fun _ => 3) l : Nat) ≤ 90000000) (ho : w.ownsRow base 141 3 (.slice a l.length cap) l.length (boardK.flat l)) :
  Calls Tryz.prog 131 #[.slice a l.length cap, .int .i64 k] w fun e w' => e = .returned (.int .i64 (k + (cntL (fun _ => 3) l : Nat))) ∧ w'.ownsRow base 141 3 (.slice a l.length cap) l.length (boardK.flat (markL mkBoard (fun _ => 3) k l)) ∧ KeptBut w w' (blk a) := by
 by_cases hz : l.length = 0
 ·have hl0 : l = [] := List.eq_nil_of_length_eq_zero hz
  subst hl0
  have HO : Hid (w.ownsRow base 141 3 (.slice a 0 cap) 0 (boardK.flat [])) := ho
  clear ho
  go_enter Tryz.func131, Tryz.ntmps131
  go_wp2_with fail
  go_loopw [1, 5] (fun q i wr => q = .int .i64 k ∧ i = .int .i64 0 ∧ wr = w) (fun _ _ _ => 0)
  case atStart => exact ⟨rfl, rfl, rfl⟩
  case round =>
   obtain ⟨rfl, rfl, rfl⟩ := hrel
   go_wp2
   go_ret
   exact ⟨ret_int (by simp [cntL]), HO.out, KeptBut.refl _ _⟩
 obtain ⟨g, rfl, hrow⟩ := RowAt.of_owns (K := boardK) ho hz
 have HR : Hid (RowAt boardK 141 w base g cap l) := hrow
 have HB : Hid (k + (cntL (fun _ : BoardD => 3) l : Nat) ≤ 90000000) := h1
 clear ho hrow h1 hz
 go_enter Tryz.func131, Tryz.ntmps131
 go_wp2_with fail
 go_loopw [1, 5] (fun q i wr => ∃ (j : Nat) (m : Int), j ≤ l.length ∧ i = .int .i64 j ∧ q = .int .i64 m ∧ 1 ≤ m ∧ m ≤ 90000000 ∧ Hid (m = k + (cntL (fun _ : BoardD => 3) (l.take j) : Nat) ∧ RowAt boardK 141 wr base g cap (markL mkBoard (fun _ => 3) k (l.take j) ++ l.drop j) ∧ KeptBut w wr [g])) (fun _ i _ => l.length - (intOf i).toNat)
 case atStart => exact ⟨0, k, Nat.zero_le _, rfl, rfl, h0, by have := HB.out; omega, ⟨by simp [cntL], HR.out, KeptBut.refl _ _⟩⟩
 case round =>
  clear HR
  obtain ⟨j, m, hj, rfl, rfl, m0, m1, HA⟩ := hrel
  by_cases hlt : j < l.length
  ·have i0 : (0 : Int) ≤ (j : Int) := by omega
   have i1 : (j : Int) < (l.length : Int) := by omega
   obtain ⟨x, hx⟩ : ∃ x, l[j]? = some x := ⟨_, List.getElem?_eq_getElem hlt⟩
   have hdr : l.drop j = x :: l.drop (j + 1) := drop_at hx
   have hcn := cntL_take_lt (c := fun _ : BoardD => 3) hx
   have hup := cntL_up (c := fun _ : BoardD => 3) hx
   have HX : Hid (l[j]? = some x ∧ m + 3 ≤ 90000000 ∧ m + 3 = k + (cntL (fun _ : BoardD => 3) (l.take (j + 1)) : Nat)) := ⟨hx, by have := HB.out; have := HA.out.1; omega, by have := HA.out.1; omega⟩
   have HW : Hid (RowAt boardK 141 wr base g cap (markL mkBoard (fun _ => 3) k (l.take j) ++ x :: l.drop (j + 1)) ∧ (markL mkBoard (fun _ => 3) k (l.take j)).length = j) := ⟨by have := HA.out.2.1; rwa [hdr] at this, by rw [markL_length, List.length_take]; omega⟩
   clear hx hdr hcn hup
   have m2 : m + 3 ≤ 90000000 := HX.out.2.1
   have hgl : g < wr.heap.size := HW.out.1.lt
   have q0 := RowAt.at_mid HW.out.1 HW.out.2 (r := 0) (by decide : 0 < boardK.n)
   obtain ⟨⟨u0, c0⟩, f0⟩ : (∃ u, wr.cell? ⟨g, j * 3, none⟩ = some u) ∧ wr.frozen? ⟨g, j * 3, none⟩ = false := q0
   have q1 := RowAt.at_mid HW.out.1 HW.out.2 (r := 1) (by decide : 1 < boardK.n)
   obtain ⟨⟨u1, c1⟩, f1⟩ : (∃ u, wr.cell? ⟨g, j * 3 + 1, none⟩ = some u) ∧ wr.frozen? ⟨g, j * 3 + 1, none⟩ = false := q1
   have h5 := RowAt.part (K := boardK) (x := (⟨x.id, x.shown, x.text⟩ : BoardD)) (y := (⟨m, (m + 1) % 3 == 0, x.text⟩ : BoardD)) (j := 0) (vs := [.int .i64 (m), .bool ((m + 1) % 3 == 0)]) HW.out.1 (by show 0 + 2 ≤ 3; omega) (fun r hr => by match r, hr with | 0, _ => rfl | 1, _ => rfl) (fun r hr hn => by match r, hr, hn with | 0, _, hn => exact absurd ⟨by omega, by show 0 < 0 + 2; omega⟩ hn | 1, _, hn => exact absurd ⟨by omega, by show 1 < 0 + 2; omega⟩ hn | 2, _, _ => rfl )
   rw [HW.out.2, show boardK.n = 3 from rfl] at h5
   simp only [setAllW, Nat.add_zero] at h5
   have HS0 : Hid (RowAt boardK 141 ((wr.setCell ⟨g, j * 3, none⟩ (.int .i64 (m))).setCell ⟨g, j * 3 + 1, none⟩ (.bool ((m + 1) % 3 == 0))) base g cap (markL mkBoard (fun _ => 3) k (l.take j) ++ (⟨m, (m + 1) % 3 == 0, x.text⟩ : BoardD) :: l.drop (j + 1)) ∧ (markL mkBoard (fun _ => 3) k (l.take j)).length = j) := ⟨h5, HW.out.2⟩
   have h6 : KeptBut w (setAllW wr g (j * 3) [.int .i64 (m), .bool ((m + 1) % 3 == 0)]) [g] := HA.out.2.2.trans (KeptBut.set _ (by simp))
   simp only [setAllW] at h6
   have HS0K : Hid (KeptBut w ((wr.setCell ⟨g, j * 3, none⟩ (.int .i64 (m))).setCell ⟨g, j * 3 + 1, none⟩ (.bool ((m + 1) % 3 == 0))) [g]) := h6
   clear h6
   clear h5
   go_wp2_with fail
   refine (markText_any (m + 1 + 1) (by omega) (by omega) _).mono ?_
   rintro e v2 ⟨rfl, hb2⟩
   have HV2 : Hid (RowAt boardK 141 v2 base g cap (markL mkBoard (fun _ => 3) k (l.take j) ++ (⟨m, (m + 1) % 3 == 0, x.text⟩ : BoardD) :: l.drop (j + 1)) ∧ (markL mkBoard (fun _ => 3) k (l.take j)).length = j) := ⟨HS0.out.1.same (hb2.block g HS0.out.1.lt), HS0.out.2⟩
   have HV2K : Hid (KeptBut w v2 [g]) := HS0K.out.trans (KeptBut.of_below hb2)
   clear hb2
   have q2 := RowAt.at_mid HV2.out.1 HV2.out.2 (r := 2) (by decide : 2 < boardK.n)
   obtain ⟨⟨u2, c2⟩, f2⟩ : (∃ u, v2.cell? ⟨g, j * 3 + 2, none⟩ = some u) ∧ v2.frozen? ⟨g, j * 3 + 2, none⟩ = false := q2
   have h5 := RowAt.part (K := boardK) (x := (⟨m, (m + 1) % 3 == 0, x.text⟩ : BoardD)) (y := (⟨m, (m + 1) % 3 == 0, markB (m + 1 + 1)⟩ : BoardD)) (j := 2) (vs := [.string (markB (m + 1 + 1))]) HV2.out.1 (by show 2 + 1 ≤ 3; omega) (fun r hr => by match r, hr with | 0, _ => rfl) (fun r hr hn => by match r, hr, hn with | 0, _, _ => rfl | 1, _, _ => rfl | 2, _, hn => exact absurd ⟨by omega, by show 2 < 2 + 1; omega⟩ hn )
   rw [HV2.out.2, show boardK.n = 3 from rfl] at h5
   simp only [setAllW] at h5
   have HS1 : Hid (RowAt boardK 141 (v2.setCell ⟨g, j * 3 + 2, none⟩ (.string (markB (m + 1 + 1)))) base g cap (markL mkBoard (fun _ => 3) k (l.take j) ++ (⟨m, (m + 1) % 3 == 0, markB (m + 1 + 1)⟩ : BoardD) :: l.drop (j + 1)) ∧ (markL mkBoard (fun _ => 3) k (l.take j)).length = j) := ⟨h5, HV2.out.2⟩
   have h6 : KeptBut w (setAllW v2 g (j * 3 + 2) [.string (markB (m + 1 + 1))]) [g] := HV2K.out.trans (KeptBut.set _ (by simp))
   simp only [setAllW] at h6
   have HS1K : Hid (KeptBut w (v2.setCell ⟨g, j * 3 + 2, none⟩ (.string (markB (m + 1 + 1)))) [g]) := h6
   clear h6
   clear h5
   have HN : Hid (RowAt boardK 141 (v2.setCell ⟨g, j * 3 + 2, none⟩ (.string (markB (m + 1 + 1)))) base g cap (markL mkBoard (fun _ => 3) k (l.take (j + 1)) ++ l.drop (j + 1)) ∧ KeptBut w (v2.setCell ⟨g, j * 3 + 2, none⟩ (.string (markB (m + 1 + 1)))) [g]) := ⟨by rw [markL_up HX.out.1, List.append_assoc, ← HA.out.1]; exact HS1.out.1, HS1K.out⟩
   go_wp2
   go_roundw
   case rel => exact ⟨j + 1, m + 3, by omega, by go_num, by go_num, by omega, by omega, ⟨HX.out.2.2, HN.out.1, HN.out.2⟩⟩
   case measure => simp [intOf]; omega
  ·have i1 : ¬ (j : Int) < (l.length : Int) := by omega
   have ej : j = l.length := by omega
   subst ej
   have HE : Hid (RowAt boardK 141 wr base g cap (markL mkBoard (fun _ => 3) k l) ∧ m = k + (cntL (fun _ : BoardD => 3) l : Nat)) := by have h5 := HA.out.2.1; have h6 := HA.out.1; rw [List.take_length, List.drop_length, List.append_nil] at h5; rw [List.take_length] at h6; exact ⟨h5, h6⟩
   go_wp2
   go_ret
   refine ⟨ret_int HE.out.2, ?_, HA.out.2.2.mono (by simp [blk])⟩
   have h7 := HE.out.1.owns
   rw [markL_length] at h7
   exact h7
def HeldBoard2 (w : World) (a : Option Addr) (l : List BoardD) (g j : Nat) (m : Int) (w' : World) : Prop := w'.cell? ⟨g, j * 3 + 2, none⟩ = some (.string (markB m)) ∧ Hid (boardK.Lies w' a l ∧ Below w.heap.size w w')
set_option maxRecDepth 100000 in
set_option maxHeartbeats 4000000 in
theorem heldSBoard_l (a : Option Addr) (l : List BoardD) (cap : Nat) (k : Int) (w : World) (hl : l.length ≤ 1048576) (h0 : 1 ≤ k) (h1 : k + (cntL (fun _ => 3) l : Nat) ≤ 90000000) (hr : boardK.Lies w a (markL mkBoard (fun _ => 3) k l)) :
  Calls Tryz.prog 138 #[.slice a l.length cap, .int .i64 k] w fun e w' => e = .returned (.int .i64 (k + (cntL (fun _ => 3) l : Nat))) ∧ Below w.heap.size w w' := by
 have HR : Hid (boardK.Lies w a (markL mkBoard (fun _ => 3) k l) ∧ k + (cntL (fun _ : BoardD => 3) l : Nat) ≤ 90000000) := ⟨hr, h1⟩
 clear hr h1
 go_enter Tryz.func138, Tryz.ntmps138
 go_wp2_with fail
 go_loopw [1, 5] (fun q i wr => ∃ (j : Nat) (m : Int), j ≤ l.length ∧ i = .int .i64 j ∧ q = .int .i64 m ∧ 1 ≤ m ∧ m ≤ 90000000 ∧ Hid (m = k + (cntL (fun _ : BoardD => 3) (l.take j) : Nat) ∧ Below w.heap.size w wr)) (fun _ i _ => l.length - (intOf i).toNat)
 case atStart => exact ⟨0, k, Nat.zero_le _, rfl, rfl, h0, by have := HR.out.2; omega, ⟨by simp [cntL], Below.refl _ _⟩⟩
 case round =>
  obtain ⟨j, m, hj, rfl, rfl, m0, m1, HA⟩ := hrel
  by_cases hlt : j < l.length
  ·have i0 : (0 : Int) ≤ (j : Int) := by omega
   have i1 : (j : Int) < (l.length : Int) := by omega
   obtain ⟨x, hx⟩ : ∃ x, l[j]? = some x := ⟨_, List.getElem?_eq_getElem hlt⟩
   have hcn := cntL_take_lt (c := fun _ : BoardD => 3) hx
   have hup := cntL_up (c := fun _ : BoardD => 3) hx
   have hg := markL_get (f := mkBoard) (c := fun _ : BoardD => 3) (k := k) hx
   rw [← HA.out.1] at hg
   obtain ⟨g, ha, hat⟩ := (HR.out.1.below HA.out.2).at hg
   have c0 : wr.cell? ⟨g, j * 3, none⟩ = some (.int .i64 (m)) := hat 0 _ rfl
   have c1 : wr.cell? ⟨g, j * 3 + 1, none⟩ = some (.bool ((m + 1) % 3 == 0)) := hat 1 _ rfl
   have c2 : wr.cell? ⟨g, j * 3 + 2, none⟩ = some (.string (markB (m + 1 + 1))) := hat 2 _ rfl
   have HX : Hid (m + 3 ≤ 90000000 ∧ m + 3 = k + (cntL (fun _ : BoardD => 3) (l.take (j + 1)) : Nat) ∧ a = some ⟨g, 0, none⟩ ∧ (markL mkBoard (fun _ => 3) k l)[j]? = some (mkBoard m x)) := ⟨by have := HR.out.2; have := HA.out.1; omega, by have := HA.out.1; omega, ha, hg⟩
   have m2 : m + 3 ≤ 90000000 := HX.out.1
   subst ha
   clear hx hcn hup hg hat
   go_wp2_with fail
   have HT : Hid (HeldBoard2 w (some ⟨g, 0, none⟩) (markL mkBoard (fun _ => 3) k l) g j (m + 1 + 1) wr.drew) := ⟨c2, (HR.out.1.below HA.out.2).below (Below.refl _ _).drew, HA.out.2.drew⟩
   clear c0 c1 c2
   refine tame_region (HeldBoard2 w (some ⟨g, 0, none⟩) (markL mkBoard (fun _ => 3) k l) g j (m + 1 + 1)) (by kernel_rfl) HT.out ?_
   iterate 6 (refine yl (v := ?_) ?_ ?_; rotate_left; (intro w0 hS0; obtain ⟨q0, hH⟩ := hS0; go_simp; try with_reducible rfl); simp only [pt, sb, s0, s1])
   refine cl (.string (markB (m + 1 + 1))) 134 #[.int .i64 (m + 1 + 1)] ?_ ?_ ?_
   ·intro w0 hS0
    obtain ⟨q0, hH⟩ := hS0
    go_simp
    try with_reducible rfl
   ·intro w0 hS0
    refine (markText_any (m + 1 + 1) (by omega) (by omega) w0).mono ?_
    rintro e w2 ⟨rfl, hb2⟩
    exact ⟨rfl, (World.cell?_of_block (hb2.block g (block_lt_of_cell hS0.1))).trans hS0.1, hS0.2.out.1.below hb2, hS0.2.out.2.trans (hb2.mono hS0.2.out.2.size)⟩
   simp only [pt, sb, s0, s1]
   (refine yl (v := ?_) ?_ ?_; rotate_left; (intro w0 hS0; obtain ⟨q0, hH⟩ := hS0; go_simp; try with_reducible rfl); simp only [pt, sb, s0, s1])
   refine tame_done (by kernel_rfl) ?_ _
   intro w1 hS1
   have HZ : Hid (Below w.heap.size w w1) := hS1.2.out.2
   clear hS1 HT
   go_wp2
   go_roundw
   case rel => exact ⟨j + 1, m + 3, by omega, by go_num, by go_num, by omega, by omega, ⟨HX.out.2.1, HZ.out⟩⟩
   case measure => simp [intOf]; omega
  ·have i1 : ¬ (j : Int) < (l.length : Int) := by omega
   have HE : Hid (m = k + (cntL (fun _ : BoardD => 3) l : Nat)) := by have h6 := HA.out.1; rw [List.take_of_length_le (by omega)] at h6; exact h6
   go_wp2
   go_ret
   exact ⟨ret_int HE.out, HA.out.2⟩

end Go.Proofs.YtkbcplnlehdjfaaGreat

/- Lists of the kind Str, marked and read again. (Made by mkmark.py.) -/
namespace Go.Proofs.YtkbcplnlehdjfaaGreat
open Go.RowKit
attribute [local go_sem ↓] Go.wp_at_zero Go.wp_at_succ

/-- The mark of a thing. -/
def mkStr (k : Int) (_ : ByteArray) : ByteArray := markB (k)
set_option maxRecDepth 100000 in
set_option maxHeartbeats 4000000 in
theorem markSStr_l (a : Option Addr) (l : List ByteArray) (cap : Nat) (k : Int) (w : World) (base : Nat) (hl : l.length ≤ 1048576) (h0 : 1 ≤ k) (h1 : k + (cntL (fun _ => 1) l : Nat) ≤ 90000000) (ho : w.ownsRow base 9 1 (.slice a l.length cap) l.length (strK.flat l)) :
  Calls Tryz.prog 144 #[.slice a l.length cap, .int .i64 k] w fun e w' => e = .returned (.int .i64 (k + (cntL (fun _ => 1) l : Nat))) ∧ w'.ownsRow base 9 1 (.slice a l.length cap) l.length (strK.flat (markL mkStr (fun _ => 1) k l)) ∧ KeptBut w w' (blk a) := by
 by_cases hz : l.length = 0
 ·have hl0 : l = [] := List.eq_nil_of_length_eq_zero hz
  subst hl0
  have HO : Hid (w.ownsRow base 9 1 (.slice a 0 cap) 0 (strK.flat [])) := ho
  clear ho
  go_enter Tryz.func144, Tryz.ntmps144
  go_wp2_with fail
  go_loopw [1, 5] (fun q i wr => q = .int .i64 k ∧ i = .int .i64 0 ∧ wr = w) (fun _ _ _ => 0)
  case atStart => exact ⟨rfl, rfl, rfl⟩
  case round =>
   obtain ⟨rfl, rfl, rfl⟩ := hrel
   go_wp2
   go_ret
   exact ⟨ret_int (by simp [cntL]), HO.out, KeptBut.refl _ _⟩
 obtain ⟨g, rfl, hrow⟩ := RowAt.of_owns (K := strK) ho hz
 have HR : Hid (RowAt strK 9 w base g cap l) := hrow
 have HB : Hid (k + (cntL (fun _ : ByteArray => 1) l : Nat) ≤ 90000000) := h1
 clear ho hrow h1 hz
 go_enter Tryz.func144, Tryz.ntmps144
 go_wp2_with fail
 go_loopw [1, 5] (fun q i wr => ∃ (j : Nat) (m : Int), j ≤ l.length ∧ i = .int .i64 j ∧ q = .int .i64 m ∧ 1 ≤ m ∧ m ≤ 90000000 ∧ Hid (m = k + (cntL (fun _ : ByteArray => 1) (l.take j) : Nat) ∧ RowAt strK 9 wr base g cap (markL mkStr (fun _ => 1) k (l.take j) ++ l.drop j) ∧ KeptBut w wr [g])) (fun _ i _ => l.length - (intOf i).toNat)
 case atStart => exact ⟨0, k, Nat.zero_le _, rfl, rfl, h0, by have := HB.out; omega, ⟨by simp [cntL], HR.out, KeptBut.refl _ _⟩⟩
 case round =>
  clear HR
  obtain ⟨j, m, hj, rfl, rfl, m0, m1, HA⟩ := hrel
  by_cases hlt : j < l.length
  ·have i0 : (0 : Int) ≤ (j : Int) := by omega
   have i1 : (j : Int) < (l.length : Int) := by omega
   obtain ⟨x, hx⟩ : ∃ x, l[j]? = some x := ⟨_, List.getElem?_eq_getElem hlt⟩
   have hdr : l.drop j = x :: l.drop (j + 1) := drop_at hx
   have hcn := cntL_take_lt (c := fun _ : ByteArray => 1) hx
   have hup := cntL_up (c := fun _ : ByteArray => 1) hx
   have HX : Hid (l[j]? = some x ∧ m + 1 ≤ 90000000 ∧ m + 1 = k + (cntL (fun _ : ByteArray => 1) (l.take (j + 1)) : Nat)) := ⟨hx, by have := HB.out; have := HA.out.1; omega, by have := HA.out.1; omega⟩
   have HW : Hid (RowAt strK 9 wr base g cap (markL mkStr (fun _ => 1) k (l.take j) ++ x :: l.drop (j + 1)) ∧ (markL mkStr (fun _ => 1) k (l.take j)).length = j) := ⟨by have := HA.out.2.1; rwa [hdr] at this, by rw [markL_length, List.length_take]; omega⟩
   clear hx hdr hcn hup
   have m2 : m + 1 ≤ 90000000 := HX.out.2.1
   have hgl : g < wr.heap.size := HW.out.1.lt
   go_wp2_with fail
   refine (markText_any (m) (by omega) (by omega) _).mono ?_
   rintro e v0 ⟨rfl, hb0⟩
   have HV0 : Hid (RowAt strK 9 v0 base g cap (markL mkStr (fun _ => 1) k (l.take j) ++ (x) :: l.drop (j + 1)) ∧ (markL mkStr (fun _ => 1) k (l.take j)).length = j) := ⟨HW.out.1.same (hb0.block g HW.out.1.lt), HW.out.2⟩
   have HV0K : Hid (KeptBut w v0 [g]) := HA.out.2.2.trans (KeptBut.of_below hb0)
   clear hb0
   have q0 := RowAt.at_mid HV0.out.1 HV0.out.2 (r := 0) (by decide : 0 < strK.n)
   obtain ⟨⟨u0, c0⟩, f0⟩ : (∃ u, v0.cell? ⟨g, j, none⟩ = some u) ∧ v0.frozen? ⟨g, j, none⟩ = false := by have h5 := q0; rw [show j * strK.n + 0 = j by show j * 1 + 0 = j; omega] at h5; exact h5
   have h5 := RowAt.part (K := strK) (x := x) (y := (markB (m))) (j := 0) (vs := [.string (markB (m))]) HV0.out.1 (by show 0 + 1 ≤ 1; omega) (fun r hr => by match r, hr with | 0, _ => rfl) (fun r hr hn => by match r, hr, hn with | 0, _, hn => exact absurd ⟨by omega, by show 0 < 0 + 1; omega⟩ hn )
   rw [HV0.out.2, show strK.n = 1 from rfl] at h5
   simp only [setAllW, Nat.mul_one, Nat.add_zero] at h5
   have HS0 : Hid (RowAt strK 9 (v0.setCell ⟨g, j, none⟩ (.string (markB (m)))) base g cap (markL mkStr (fun _ => 1) k (l.take j) ++ (markB (m)) :: l.drop (j + 1)) ∧ (markL mkStr (fun _ => 1) k (l.take j)).length = j) := ⟨h5, HV0.out.2⟩
   have h6 : KeptBut w (setAllW v0 g (j) [.string (markB (m))]) [g] := HV0K.out.trans (KeptBut.set _ (by simp))
   simp only [setAllW] at h6
   have HS0K : Hid (KeptBut w (v0.setCell ⟨g, j, none⟩ (.string (markB (m)))) [g]) := h6
   clear h6
   clear h5
   have HN : Hid (RowAt strK 9 (v0.setCell ⟨g, j, none⟩ (.string (markB (m)))) base g cap (markL mkStr (fun _ => 1) k (l.take (j + 1)) ++ l.drop (j + 1)) ∧ KeptBut w (v0.setCell ⟨g, j, none⟩ (.string (markB (m)))) [g]) := ⟨by rw [markL_up HX.out.1, List.append_assoc, ← HA.out.1]; exact HS0.out.1, HS0K.out⟩
   go_wp2
   go_roundw
   case rel => exact ⟨j + 1, m + 1, by omega, by go_num, by go_num, by omega, by omega, ⟨HX.out.2.2, HN.out.1, HN.out.2⟩⟩
   case measure => simp [intOf]; omega
  ·have i1 : ¬ (j : Int) < (l.length : Int) := by omega
   have ej : j = l.length := by omega
   subst ej
   have HE : Hid (RowAt strK 9 wr base g cap (markL mkStr (fun _ => 1) k l) ∧ m = k + (cntL (fun _ : ByteArray => 1) l : Nat)) := by have h5 := HA.out.2.1; have h6 := HA.out.1; rw [List.take_length, List.drop_length, List.append_nil] at h5; rw [List.take_length] at h6; exact ⟨h5, h6⟩
   go_wp2
   go_ret
   refine ⟨ret_int HE.out.2, ?_, HA.out.2.2.mono (by simp [blk])⟩
   have h7 := HE.out.1.owns
   rw [markL_length] at h7
   exact h7
def HeldStr0 (w : World) (a : Option Addr) (l : List ByteArray) (g j : Nat) (m : Int) (w' : World) : Prop := w'.cell? ⟨g, j, none⟩ = some (.string (markB m)) ∧ Hid (strK.Lies w' a l ∧ Below w.heap.size w w')
set_option maxRecDepth 100000 in
set_option maxHeartbeats 4000000 in
theorem heldSStr_l (a : Option Addr) (l : List ByteArray) (cap : Nat) (k : Int) (w : World) (hl : l.length ≤ 1048576) (h0 : 1 ≤ k) (h1 : k + (cntL (fun _ => 1) l : Nat) ≤ 90000000) (hr : strK.Lies w a (markL mkStr (fun _ => 1) k l)) :
  Calls Tryz.prog 200 #[.slice a l.length cap, .int .i64 k] w fun e w' => e = .returned (.int .i64 (k + (cntL (fun _ => 1) l : Nat))) ∧ Below w.heap.size w w' := by
 have HR : Hid (strK.Lies w a (markL mkStr (fun _ => 1) k l) ∧ k + (cntL (fun _ : ByteArray => 1) l : Nat) ≤ 90000000) := ⟨hr, h1⟩
 clear hr h1
 go_enter Tryz.func200, Tryz.ntmps200
 go_wp2_with fail
 go_loopw [1, 5] (fun q i wr => ∃ (j : Nat) (m : Int), j ≤ l.length ∧ i = .int .i64 j ∧ q = .int .i64 m ∧ 1 ≤ m ∧ m ≤ 90000000 ∧ Hid (m = k + (cntL (fun _ : ByteArray => 1) (l.take j) : Nat) ∧ Below w.heap.size w wr)) (fun _ i _ => l.length - (intOf i).toNat)
 case atStart => exact ⟨0, k, Nat.zero_le _, rfl, rfl, h0, by have := HR.out.2; omega, ⟨by simp [cntL], Below.refl _ _⟩⟩
 case round =>
  obtain ⟨j, m, hj, rfl, rfl, m0, m1, HA⟩ := hrel
  by_cases hlt : j < l.length
  ·have i0 : (0 : Int) ≤ (j : Int) := by omega
   have i1 : (j : Int) < (l.length : Int) := by omega
   obtain ⟨x, hx⟩ : ∃ x, l[j]? = some x := ⟨_, List.getElem?_eq_getElem hlt⟩
   have hcn := cntL_take_lt (c := fun _ : ByteArray => 1) hx
   have hup := cntL_up (c := fun _ : ByteArray => 1) hx
   have hg := markL_get (f := mkStr) (c := fun _ : ByteArray => 1) (k := k) hx
   rw [← HA.out.1] at hg
   obtain ⟨g, ha, hat⟩ := (HR.out.1.below HA.out.2).at hg
   have c0 : wr.cell? ⟨g, j, none⟩ = some (.string (markB (m))) := by have h5 := hat 0 _ rfl; rw [show j * strK.n + 0 = j by show j * 1 + 0 = j; omega] at h5; exact h5
   have HX : Hid (m + 1 ≤ 90000000 ∧ m + 1 = k + (cntL (fun _ : ByteArray => 1) (l.take (j + 1)) : Nat) ∧ a = some ⟨g, 0, none⟩ ∧ (markL mkStr (fun _ => 1) k l)[j]? = some (mkStr m x)) := ⟨by have := HR.out.2; have := HA.out.1; omega, by have := HA.out.1; omega, ha, hg⟩
   have m2 : m + 1 ≤ 90000000 := HX.out.1
   subst ha
   clear hx hcn hup hg hat
   go_wp2_with fail
   have HT : Hid (HeldStr0 w (some ⟨g, 0, none⟩) (markL mkStr (fun _ => 1) k l) g j (m) wr.drew) := ⟨c0, (HR.out.1.below HA.out.2).below (Below.refl _ _).drew, HA.out.2.drew⟩
   clear c0
   refine tame_region (HeldStr0 w (some ⟨g, 0, none⟩) (markL mkStr (fun _ => 1) k l) g j (m)) (by kernel_rfl) HT.out ?_
   iterate 5 (refine yl (v := ?_) ?_ ?_; rotate_left; (intro w0 hS0; obtain ⟨q0, hH⟩ := hS0; go_simp; try with_reducible rfl); simp only [pt, sb, s0, s1])
   refine cl (.string (markB (m))) 134 #[.int .i64 (m)] ?_ ?_ ?_
   ·intro w0 hS0
    obtain ⟨q0, hH⟩ := hS0
    go_simp
    try with_reducible rfl
   ·intro w0 hS0
    refine (markText_any (m) (by omega) (by omega) w0).mono ?_
    rintro e w2 ⟨rfl, hb2⟩
    exact ⟨rfl, (World.cell?_of_block (hb2.block g (block_lt_of_cell hS0.1))).trans hS0.1, hS0.2.out.1.below hb2, hS0.2.out.2.trans (hb2.mono hS0.2.out.2.size)⟩
   simp only [pt, sb, s0, s1]
   (refine yl (v := ?_) ?_ ?_; rotate_left; (intro w0 hS0; obtain ⟨q0, hH⟩ := hS0; go_simp; try with_reducible rfl); simp only [pt, sb, s0, s1])
   refine tame_done (by kernel_rfl) ?_ _
   intro w1 hS1
   have HZ : Hid (Below w.heap.size w w1) := hS1.2.out.2
   clear hS1 HT
   go_wp2
   go_roundw
   case rel => exact ⟨j + 1, m + 1, by omega, by go_num, by go_num, by omega, by omega, ⟨HX.out.2.1, HZ.out⟩⟩
   case measure => simp [intOf]; omega
  ·have i1 : ¬ (j : Int) < (l.length : Int) := by omega
   have HE : Hid (m = k + (cntL (fun _ : ByteArray => 1) l : Nat)) := by have h6 := HA.out.1; rw [List.take_of_length_le (by omega)] at h6; exact h6
   go_wp2
   go_ret
   exact ⟨ret_int HE.out, HA.out.2⟩

end Go.Proofs.YtkbcplnlehdjfaaGreat

/- Lists of the kind Buffer, marked. (Made by mkmarkn.py.) -/
namespace Go.Proofs.YtkbcplnlehdjfaaGreat
open Go.RowKit
attribute [local go_sem ↓] Go.wp_at_zero Go.wp_at_succ

def cBuffer (x : BufferD) : Nat := 2 + cntL (fun _ : ByteArray => 1) x.items
def mkBuffer (k : Int) (x : BufferD) : BufferD := { x with id := k, max := k + 1, items := markL mkStr (fun _ => 1) (k + 1 + 1) x.items }
set_option maxRecDepth 100000 in
set_option maxHeartbeats 4000000 in
theorem markSBuffer_l (a : Option Addr) (l : List BufferD) (cap : Nat) (k : Int) (w : World) (base : Nat) (hl : l.length ≤ 1048576) (hk : ∀ x ∈ l, x.items.length ≤ 1048576) (h0 : 1 ≤ k) (h1 : k + (cntL cBuffer l : Nat) ≤ 90000000) (ho : w.ownsRow base 144 3 (.slice a l.length cap) l.length (bufferK.flat l)) (hm : ∀ x ∈ l, bufferN.Mine w base x) (hn : (blk a ++ l.filterMap bufferN.kid).Nodup) :
  Calls Tryz.prog 132 #[.slice a l.length cap, .int .i64 k] w fun e w' => e = .returned (.int .i64 (k + (cntL cBuffer l : Nat))) ∧ w'.ownsRow base 144 3 (.slice a l.length cap) l.length (bufferK.flat (markL mkBuffer cBuffer k l)) ∧ (∀ y ∈ markL mkBuffer cBuffer k l, bufferN.Mine w' base y) ∧ KeptBut w w' (blk a ++ l.filterMap bufferN.kid) := by
 by_cases hz : l.length = 0
 ·have hl0 : l = [] := List.eq_nil_of_length_eq_zero hz
  subst hl0
  have HO : Hid (w.ownsRow base 144 3 (.slice a 0 cap) 0 (bufferK.flat [])) := ho
  clear ho
  go_enter Tryz.func132, Tryz.ntmps132
  go_wp2_with fail
  go_loopw [1, 5] (fun q i wr => q = .int .i64 k ∧ i = .int .i64 0 ∧ wr = w) (fun _ _ _ => 0)
  case atStart => exact ⟨rfl, rfl, rfl⟩
  case round =>
   obtain ⟨rfl, rfl, rfl⟩ := hrel
   go_wp2
   go_ret
   exact ⟨ret_int (by simp [cntL]), HO.out, (fun y hy => by cases hy), KeptBut.refl _ _⟩
 obtain ⟨g, rfl, hrow⟩ := RowAt.of_owns (K := bufferK) ho hz
 have HR : Hid (RowAt bufferK 144 w base g cap l ∧ Mines bufferN w base g l) := ⟨hrow, hm, hn⟩
 have HB : Hid (k + (cntL cBuffer l : Nat) ≤ 90000000 ∧ ∀ x ∈ l, x.items.length ≤ 1048576) := ⟨h1, hk⟩
 clear ho hrow h1 hz hm hn hk
 go_enter Tryz.func132, Tryz.ntmps132
 go_wp2_with fail
 go_loopw [1, 5] (fun q i wr => ∃ (j : Nat) (m : Int), j ≤ l.length ∧ i = .int .i64 j ∧ q = .int .i64 m ∧ 1 ≤ m ∧ m ≤ 90000000 ∧ Hid (m = k + (cntL cBuffer (l.take j) : Nat) ∧ RowAt bufferK 144 wr base g cap (markL mkBuffer cBuffer k (l.take j) ++ l.drop j) ∧ Mines bufferN wr base g (markL mkBuffer cBuffer k (l.take j) ++ l.drop j) ∧ KeptBut w wr (g :: l.filterMap bufferN.kid))) (fun _ i _ => l.length - (intOf i).toNat)
 case atStart => exact ⟨0, k, Nat.zero_le _, rfl, rfl, h0, by have := HB.out.1; omega, ⟨by simp [cntL], HR.out.1, HR.out.2, KeptBut.refl _ _⟩⟩
 case round =>
  clear HR
  obtain ⟨j, m, hj, rfl, rfl, m0, m1, HA⟩ := hrel
  by_cases hlt : j < l.length
  ·have i0 : (0 : Int) ≤ (j : Int) := by omega
   have i1 : (j : Int) < (l.length : Int) := by omega
   obtain ⟨x, hx⟩ : ∃ x, l[j]? = some x := ⟨_, List.getElem?_eq_getElem hlt⟩
   have hdr : l.drop j = x :: l.drop (j + 1) := drop_at hx
   have hcn := cntL_take_lt (c := cBuffer) hx
   have hup := cntL_up (c := cBuffer) hx
   have hcx : cBuffer x = 2 + cntL (fun _ : ByteArray => 1) x.items := rfl
   have HX : Hid (l[j]? = some x ∧ x.items.length ≤ 1048576 ∧ m + 1 + 1 + (cntL (fun _ : ByteArray => 1) x.items : Nat) ≤ 90000000 ∧ m + 1 + 1 + (cntL (fun _ : ByteArray => 1) x.items : Nat) = k + (cntL cBuffer (l.take (j + 1)) : Nat)) := ⟨hx, HB.out.2 x (List.mem_of_getElem? hx), by have := HB.out.1; have := HA.out.1; omega, by have := HA.out.1; omega⟩
   have HW : Hid (RowAt bufferK 144 wr base g cap (markL mkBuffer cBuffer k (l.take j) ++ x :: l.drop (j + 1)) ∧ (markL mkBuffer cBuffer k (l.take j)).length = j) := ⟨by have := HA.out.2.1; rwa [hdr] at this, by rw [markL_length, List.length_take]; omega⟩
   have HM : Hid (Mines bufferN wr base g (markL mkBuffer cBuffer k (l.take j) ++ x :: l.drop (j + 1))) := by have := HA.out.2.2.1; rwa [hdr] at this
   have m2 : m + 1 + 1 ≤ 90000000 := by have := HX.out.2.2.1; omega
   have hgl : g < wr.heap.size := HW.out.1.lt
   clear hx hdr hcn hup hcx
   have q0 := RowAt.at_mid HW.out.1 HW.out.2 (r := 0) (by decide : 0 < bufferK.n)
   obtain ⟨⟨u0, c0⟩, f0⟩ : (∃ u, wr.cell? ⟨g, j * 3, none⟩ = some u) ∧ wr.frozen? ⟨g, j * 3, none⟩ = false := q0
   have q1 := RowAt.at_mid HW.out.1 HW.out.2 (r := 1) (by decide : 1 < bufferK.n)
   obtain ⟨⟨u1, c1⟩, f1⟩ : (∃ u, wr.cell? ⟨g, j * 3 + 1, none⟩ = some u) ∧ wr.frozen? ⟨g, j * 3 + 1, none⟩ = false := q1
   have c2 : wr.cell? ⟨g, j * 3 + 2, none⟩ = some (.slice x.itemsA x.items.length x.itemsC) := (RowAt.mid_cell HW.out.1 HW.out.2 (r := 2) (by decide : 2 < bufferK.n))
   have h5 := RowAt.part (K := bufferK) (x := x) (y := ({ x with id := m, max := m + 1 } : BufferD)) (j := 0) (vs := [.int .i64 (m), .int .i64 (m + 1)]) HW.out.1 (by show 0 + 2 ≤ 3; omega) (fun r hr => by match r, hr with | 0, _ => rfl | 1, _ => rfl) (fun r hr hn => by match r, hr, hn with | 0, _, hn => exact absurd ⟨by omega, by show 0 < 0 + 2; omega⟩ hn | 1, _, hn => exact absurd ⟨by omega, by show 1 < 0 + 2; omega⟩ hn | 2, _, _ => rfl)
   rw [HW.out.2, show bufferK.n = 3 from rfl] at h5
   have h6 : KeptBut wr (setAllW wr g (j * 3) [.int .i64 (m), .int .i64 (m + 1)]) [g] := KeptBut.set _ (by simp)
   simp only [setAllW, Nat.add_zero] at h5 h6
   have HS : Hid (RowAt bufferK 144 ((wr.setCell ⟨g, j * 3, none⟩ (.int .i64 (m))).setCell ⟨g, j * 3 + 1, none⟩ (.int .i64 (m + 1))) base g cap (markL mkBuffer cBuffer k (l.take j) ++ ({ x with id := m, max := m + 1 } : BufferD) :: l.drop (j + 1)) ∧ Mines bufferN ((wr.setCell ⟨g, j * 3, none⟩ (.int .i64 (m))).setCell ⟨g, j * 3 + 1, none⟩ (.int .i64 (m + 1))) base g (markL mkBuffer cBuffer k (l.take j) ++ ({ x with id := m, max := m + 1 } : BufferD) :: l.drop (j + 1)) ∧ KeptBut w ((wr.setCell ⟨g, j * 3, none⟩ (.int .i64 (m))).setCell ⟨g, j * 3 + 1, none⟩ (.int .i64 (m + 1))) (g :: l.filterMap bufferN.kid)) := ⟨h5, (HM.out.keep h6).turn rfl ((HM.out.keep h6).mine x (by simp)), HA.out.2.2.2.trans (h6.mono (by simp))⟩
   clear h5 h6
   go_wp2_with fail
   generalize (wr.setCell ⟨g, j * 3, none⟩ (.int .i64 (m))).setCell ⟨g, j * 3 + 1, none⟩ (.int .i64 (m + 1)) = W1 at *
   refine (markSStr_l x.itemsA x.items x.itemsC (m + 1 + 1) W1 base HX.out.2.1 (by omega) HX.out.2.2.1 (HS.out.2.1.mine ({ x with id := m, max := m + 1 } : BufferD) (by simp))).mono ?_
   rintro e v ⟨rfl, hown, hkb⟩
   have HV : Hid (RowAt bufferK 144 v base g cap (markL mkBuffer cBuffer k (l.take (j + 1)) ++ l.drop (j + 1)) ∧ Mines bufferN v base g (markL mkBuffer cBuffer k (l.take (j + 1)) ++ l.drop (j + 1)) ∧ KeptBut w v (g :: l.filterMap bufferN.kid)) := by
    have hap := HS.out.2.1.apart (z := ({ x with id := m, max := m + 1 } : BufferD)) (by simp)
    rw [markL_up HX.out.1, List.append_assoc, ← HA.out.1]
    have h7 := HS.out.1.same (hkb.same g HS.out.1.lt hap)
    have hm7 : bufferN.Mine v base (mkBuffer m x) := by
     show v.ownsRow base _ 1 (.slice x.itemsA (markL mkStr (fun _ => 1) (m + 1 + 1) x.items).length x.itemsC) (markL mkStr (fun _ => 1) (m + 1 + 1) x.items).length (strK.flat (markL mkStr (fun _ => 1) (m + 1 + 1) x.items))
     rw [markL_length]
     exact hown
    refine ⟨?_, HS.out.2.1.inner hkb rfl hm7, HS.out.2.2.trans (hkb.mono fun b hb => ?_)⟩
    ·exact RowAt.part (K := bufferK) (x := ({ x with id := m, max := m + 1 } : BufferD)) (y := mkBuffer m x) (j := 0) (vs := []) h7 (by show 0 + 0 ≤ 3; omega) (fun r hr => absurd hr (by simp)) (fun r hr _ => by match r, hr with | 0, _ => rfl | 1, _ => rfl | 2, _ => (show some (Value.slice x.itemsA (markL mkStr (fun _ => 1) (m + 1 + 1) x.items).length x.itemsC) = some (.slice x.itemsA x.items.length x.itemsC); rw [markL_length]))
    ·exact List.mem_cons_of_mem _ (List.mem_filterMap.2 ⟨x, List.mem_of_getElem? HX.out.1, mem_blk.1 hb⟩)
   clear hown hkb HS
   have m3 : m + 1 + 1 + (cntL (fun _ : ByteArray => 1) x.items : Nat) ≤ 90000000 := HX.out.2.2.1
   go_wp2
   go_roundw
   case rel => exact ⟨j + 1, m + 1 + 1 + (cntL (fun _ : ByteArray => 1) x.items : Nat), by omega, by go_num, rfl, by omega, by omega, ⟨HX.out.2.2.2, HV.out.1, HV.out.2.1, HV.out.2.2⟩⟩
   case measure => simp [intOf]; omega
  ·have i1 : ¬ (j : Int) < (l.length : Int) := by omega
   have ej : j = l.length := by omega
   subst ej
   have HE : Hid (RowAt bufferK 144 wr base g cap (markL mkBuffer cBuffer k l) ∧ Mines bufferN wr base g (markL mkBuffer cBuffer k l) ∧ m = k + (cntL cBuffer l : Nat)) := by have h5 := HA.out.2.1; have h6 := HA.out.1; have h7 := HA.out.2.2.1; rw [List.take_length, List.drop_length, List.append_nil] at h5 h7; rw [List.take_length] at h6; exact ⟨h5, h7, h6⟩
   go_wp2
   go_ret
   refine ⟨ret_int HE.out.2.2, ?_, HE.out.2.1.mine, HA.out.2.2.2⟩
   have h7 := HE.out.1.owns
   rw [markL_length] at h7
   exact h7

set_option maxRecDepth 100000 in
set_option maxHeartbeats 4000000 in
theorem heldSBuffer_l (a : Option Addr) (l : List BufferD) (cap : Nat) (k : Int) (w : World) (hl : l.length ≤ 1048576) (hk : ∀ x ∈ l, x.items.length ≤ 1048576) (h0 : 1 ≤ k) (h1 : k + (cntL cBuffer l : Nat) ≤ 90000000) (hr : bufferK.Lies w a (markL mkBuffer cBuffer k l)) :
  Calls Tryz.prog 139 #[.slice a l.length cap, .int .i64 k] w fun e w' => e = .returned (.int .i64 (k + (cntL cBuffer l : Nat))) ∧ Below w.heap.size w w' := by
 have HR : Hid (bufferK.Lies w a (markL mkBuffer cBuffer k l) ∧ k + (cntL cBuffer l : Nat) ≤ 90000000 ∧ ∀ x ∈ l, x.items.length ≤ 1048576) := ⟨hr, h1, hk⟩
 clear hr h1 hk
 go_enter Tryz.func139, Tryz.ntmps139
 go_wp2_with fail
 go_loopw [1, 5] (fun q i wr => ∃ (j : Nat) (m : Int), j ≤ l.length ∧ i = .int .i64 j ∧ q = .int .i64 m ∧ 1 ≤ m ∧ m ≤ 90000000 ∧ Hid (m = k + (cntL cBuffer (l.take j) : Nat) ∧ Below w.heap.size w wr)) (fun _ i _ => l.length - (intOf i).toNat)
 case atStart => exact ⟨0, k, Nat.zero_le _, rfl, rfl, h0, by have := HR.out.2.1; omega, ⟨by simp [cntL], Below.refl _ _⟩⟩
 case round =>
  obtain ⟨j, m, hj, rfl, rfl, m0, m1, HA⟩ := hrel
  by_cases hlt : j < l.length
  ·have i0 : (0 : Int) ≤ (j : Int) := by omega
   have i1 : (j : Int) < (l.length : Int) := by omega
   obtain ⟨x, hx⟩ : ∃ x, l[j]? = some x := ⟨_, List.getElem?_eq_getElem hlt⟩
   have hcn := cntL_take_lt (c := cBuffer) hx
   have hup := cntL_up (c := cBuffer) hx
   have hcx : cBuffer x = 2 + cntL (fun _ : ByteArray => 1) x.items := rfl
   have hg := markL_get (f := mkBuffer) (c := cBuffer) (k := k) hx
   rw [← HA.out.1] at hg
   have hls : bufferK.Lies wr a (markL mkBuffer cBuffer k l) := HR.out.1.below HA.out.2
   obtain ⟨g, ha, hat⟩ := hls.at hg
   have c0 : wr.cell? ⟨g, j * 3, none⟩ = some (.int .i64 (m)) := hat 0 _ rfl
   have c1 : wr.cell? ⟨g, j * 3 + 1, none⟩ = some (.int .i64 (m + 1)) := hat 1 _ rfl
   have cp : wr.cell? ⟨g, j * 3 + 2, none⟩ = some (.slice x.itemsA x.items.length x.itemsC) := (hat 2 _ rfl).trans (show some (Value.slice x.itemsA (markL mkStr (fun _ => 1) (m + 1 + 1) x.items).length x.itemsC) = _ by rw [markL_length])
   have HX : Hid (x.items.length ≤ 1048576 ∧ m + 1 + 1 + (cntL (fun _ : ByteArray => 1) x.items : Nat) ≤ 90000000 ∧ m + 1 + 1 + (cntL (fun _ : ByteArray => 1) x.items : Nat) = k + (cntL cBuffer (l.take (j + 1)) : Nat) ∧ strK.Lies wr x.itemsA (markL mkStr (fun _ => 1) (m + 1 + 1) x.items)) := ⟨HR.out.2.2 x (List.mem_of_getElem? hx), by have := HR.out.2.1; have := HA.out.1; omega, by have := HA.out.1; omega, hls.2 _ (List.mem_of_getElem? hg) (x.itemsA, strK.flat (markL mkStr (fun _ => 1) (m + 1 + 1) x.items)) (List.mem_singleton.2 rfl), fun _ _ r hr => by cases hr⟩
   have m2 : m + 1 + 1 + (cntL (fun _ : ByteArray => 1) x.items : Nat) ≤ 90000000 := HX.out.2.1
   subst ha
   clear hx hcn hup hcx hg hat hls
   go_wp2_with fail
   refine (heldSStr_l x.itemsA x.items x.itemsC (m + 1 + 1) wr HX.out.1 (by omega) HX.out.2.1 HX.out.2.2.2).mono ?_
   rintro e v ⟨rfl, hb⟩
   have HV : Hid (Below w.heap.size w v) := HA.out.2.trans (hb.mono HA.out.2.size)
   clear hb
   go_wp2
   go_roundw
   case rel => exact ⟨j + 1, m + 1 + 1 + (cntL (fun _ : ByteArray => 1) x.items : Nat), by omega, by go_num, rfl, by omega, by omega, ⟨HX.out.2.2.1, HV.out⟩⟩
   case measure => simp [intOf]; omega
  ·have i1 : ¬ (j : Int) < (l.length : Int) := by omega
   have HE : Hid (m = k + (cntL cBuffer l : Nat)) := by have h6 := HA.out.1; rw [List.take_of_length_le (by omega)] at h6; exact h6
   go_wp2
   go_ret
   exact ⟨ret_int HE.out, HA.out.2⟩

end Go.Proofs.YtkbcplnlehdjfaaGreat

/- Lists of the kind Port, marked. (Made by mkmarkn.py.) -/
namespace Go.Proofs.YtkbcplnlehdjfaaGreat
open Go.RowKit
attribute [local go_sem ↓] Go.wp_at_zero Go.wp_at_succ

def cPort (x : PortD) : Nat := 4 + cntL (fun _ : ByteArray => 1) x.items
def mkPort (k : Int) (x : PortD) : PortD := { x with id := k, out := (k + 1) % 3 == 0, queue := (k + 1 + 1) % 3 == 0, max := k + 1 + 1 + 1, items := markL mkStr (fun _ => 1) (k + 1 + 1 + 1 + 1) x.items }
set_option maxRecDepth 100000 in
set_option maxHeartbeats 4000000 in
theorem markSPort_l (a : Option Addr) (l : List PortD) (cap : Nat) (k : Int) (w : World) (base : Nat) (hl : l.length ≤ 1048576) (hk : ∀ x ∈ l, x.items.length ≤ 1048576) (h0 : 1 ≤ k) (h1 : k + (cntL cPort l : Nat) ≤ 90000000) (ho : w.ownsRow base 61 5 (.slice a l.length cap) l.length (portK.flat l)) (hm : ∀ x ∈ l, portN.Mine w base x) (hn : (blk a ++ l.filterMap portN.kid).Nodup) :
  Calls Tryz.prog 133 #[.slice a l.length cap, .int .i64 k] w fun e w' => e = .returned (.int .i64 (k + (cntL cPort l : Nat))) ∧ w'.ownsRow base 61 5 (.slice a l.length cap) l.length (portK.flat (markL mkPort cPort k l)) ∧ (∀ y ∈ markL mkPort cPort k l, portN.Mine w' base y) ∧ KeptBut w w' (blk a ++ l.filterMap portN.kid) := by
 by_cases hz : l.length = 0
 ·have hl0 : l = [] := List.eq_nil_of_length_eq_zero hz
  subst hl0
  have HO : Hid (w.ownsRow base 61 5 (.slice a 0 cap) 0 (portK.flat [])) := ho
  clear ho
  go_enter Tryz.func133, Tryz.ntmps133
  go_wp2_with fail
  go_loopw [1, 5] (fun q i wr => q = .int .i64 k ∧ i = .int .i64 0 ∧ wr = w) (fun _ _ _ => 0)
  case atStart => exact ⟨rfl, rfl, rfl⟩
  case round =>
   obtain ⟨rfl, rfl, rfl⟩ := hrel
   go_wp2
   go_ret
   exact ⟨ret_int (by simp [cntL]), HO.out, (fun y hy => by cases hy), KeptBut.refl _ _⟩
 obtain ⟨g, rfl, hrow⟩ := RowAt.of_owns (K := portK) ho hz
 have HR : Hid (RowAt portK 61 w base g cap l ∧ Mines portN w base g l) := ⟨hrow, hm, hn⟩
 have HB : Hid (k + (cntL cPort l : Nat) ≤ 90000000 ∧ ∀ x ∈ l, x.items.length ≤ 1048576) := ⟨h1, hk⟩
 clear ho hrow h1 hz hm hn hk
 go_enter Tryz.func133, Tryz.ntmps133
 go_wp2_with fail
 go_loopw [1, 5] (fun q i wr => ∃ (j : Nat) (m : Int), j ≤ l.length ∧ i = .int .i64 j ∧ q = .int .i64 m ∧ 1 ≤ m ∧ m ≤ 90000000 ∧ Hid (m = k + (cntL cPort (l.take j) : Nat) ∧ RowAt portK 61 wr base g cap (markL mkPort cPort k (l.take j) ++ l.drop j) ∧ Mines portN wr base g (markL mkPort cPort k (l.take j) ++ l.drop j) ∧ KeptBut w wr (g :: l.filterMap portN.kid))) (fun _ i _ => l.length - (intOf i).toNat)
 case atStart => exact ⟨0, k, Nat.zero_le _, rfl, rfl, h0, by have := HB.out.1; omega, ⟨by simp [cntL], HR.out.1, HR.out.2, KeptBut.refl _ _⟩⟩
 case round =>
  clear HR
  obtain ⟨j, m, hj, rfl, rfl, m0, m1, HA⟩ := hrel
  by_cases hlt : j < l.length
  ·have i0 : (0 : Int) ≤ (j : Int) := by omega
   have i1 : (j : Int) < (l.length : Int) := by omega
   obtain ⟨x, hx⟩ : ∃ x, l[j]? = some x := ⟨_, List.getElem?_eq_getElem hlt⟩
   have hdr : l.drop j = x :: l.drop (j + 1) := drop_at hx
   have hcn := cntL_take_lt (c := cPort) hx
   have hup := cntL_up (c := cPort) hx
   have hcx : cPort x = 4 + cntL (fun _ : ByteArray => 1) x.items := rfl
   have HX : Hid (l[j]? = some x ∧ x.items.length ≤ 1048576 ∧ m + 1 + 1 + 1 + 1 + (cntL (fun _ : ByteArray => 1) x.items : Nat) ≤ 90000000 ∧ m + 1 + 1 + 1 + 1 + (cntL (fun _ : ByteArray => 1) x.items : Nat) = k + (cntL cPort (l.take (j + 1)) : Nat)) := ⟨hx, HB.out.2 x (List.mem_of_getElem? hx), by have := HB.out.1; have := HA.out.1; omega, by have := HA.out.1; omega⟩
   have HW : Hid (RowAt portK 61 wr base g cap (markL mkPort cPort k (l.take j) ++ x :: l.drop (j + 1)) ∧ (markL mkPort cPort k (l.take j)).length = j) := ⟨by have := HA.out.2.1; rwa [hdr] at this, by rw [markL_length, List.length_take]; omega⟩
   have HM : Hid (Mines portN wr base g (markL mkPort cPort k (l.take j) ++ x :: l.drop (j + 1))) := by have := HA.out.2.2.1; rwa [hdr] at this
   have m2 : m + 1 + 1 + 1 + 1 ≤ 90000000 := by have := HX.out.2.2.1; omega
   have hgl : g < wr.heap.size := HW.out.1.lt
   clear hx hdr hcn hup hcx
   have q0 := RowAt.at_mid HW.out.1 HW.out.2 (r := 0) (by decide : 0 < portK.n)
   obtain ⟨⟨u0, c0⟩, f0⟩ : (∃ u, wr.cell? ⟨g, j * 5, none⟩ = some u) ∧ wr.frozen? ⟨g, j * 5, none⟩ = false := q0
   have q1 := RowAt.at_mid HW.out.1 HW.out.2 (r := 1) (by decide : 1 < portK.n)
   obtain ⟨⟨u1, c1⟩, f1⟩ : (∃ u, wr.cell? ⟨g, j * 5 + 1, none⟩ = some u) ∧ wr.frozen? ⟨g, j * 5 + 1, none⟩ = false := q1
   have q2 := RowAt.at_mid HW.out.1 HW.out.2 (r := 2) (by decide : 2 < portK.n)
   obtain ⟨⟨u2, c2⟩, f2⟩ : (∃ u, wr.cell? ⟨g, j * 5 + 2, none⟩ = some u) ∧ wr.frozen? ⟨g, j * 5 + 2, none⟩ = false := q2
   have q3 := RowAt.at_mid HW.out.1 HW.out.2 (r := 3) (by decide : 3 < portK.n)
   obtain ⟨⟨u3, c3⟩, f3⟩ : (∃ u, wr.cell? ⟨g, j * 5 + 3, none⟩ = some u) ∧ wr.frozen? ⟨g, j * 5 + 3, none⟩ = false := q3
   have c2 : wr.cell? ⟨g, j * 5 + 4, none⟩ = some (.slice x.itemsA x.items.length x.itemsC) := (RowAt.mid_cell HW.out.1 HW.out.2 (r := 4) (by decide : 4 < portK.n))
   have h5 := RowAt.part (K := portK) (x := x) (y := ({ x with id := m, out := (m + 1) % 3 == 0, queue := (m + 1 + 1) % 3 == 0, max := m + 1 + 1 + 1 } : PortD)) (j := 0) (vs := [.int .i64 (m), .bool ((m + 1) % 3 == 0), .bool ((m + 1 + 1) % 3 == 0), .int .i64 (m + 1 + 1 + 1)]) HW.out.1 (by show 0 + 4 ≤ 5; omega) (fun r hr => by match r, hr with | 0, _ => rfl | 1, _ => rfl | 2, _ => rfl | 3, _ => rfl) (fun r hr hn => by match r, hr, hn with | 0, _, hn => exact absurd ⟨by omega, by show 0 < 0 + 4; omega⟩ hn | 1, _, hn => exact absurd ⟨by omega, by show 1 < 0 + 4; omega⟩ hn | 2, _, hn => exact absurd ⟨by omega, by show 2 < 0 + 4; omega⟩ hn | 3, _, hn => exact absurd ⟨by omega, by show 3 < 0 + 4; omega⟩ hn | 4, _, _ => rfl)
   rw [HW.out.2, show portK.n = 5 from rfl] at h5
   have h6 : KeptBut wr (setAllW wr g (j * 5) [.int .i64 (m), .bool ((m + 1) % 3 == 0), .bool ((m + 1 + 1) % 3 == 0), .int .i64 (m + 1 + 1 + 1)]) [g] := KeptBut.set _ (by simp)
   simp only [setAllW, Nat.add_zero, Nat.add_assoc, Nat.reduceAdd] at h5 h6
   have HS : Hid (RowAt portK 61 ((((wr.setCell ⟨g, j * 5, none⟩ (.int .i64 (m))).setCell ⟨g, j * 5 + 1, none⟩ (.bool ((m + 1) % 3 == 0))).setCell ⟨g, j * 5 + 2, none⟩ (.bool ((m + 1 + 1) % 3 == 0))).setCell ⟨g, j * 5 + 3, none⟩ (.int .i64 (m + 1 + 1 + 1))) base g cap (markL mkPort cPort k (l.take j) ++ ({ x with id := m, out := (m + 1) % 3 == 0, queue := (m + 1 + 1) % 3 == 0, max := m + 1 + 1 + 1 } : PortD) :: l.drop (j + 1)) ∧ Mines portN ((((wr.setCell ⟨g, j * 5, none⟩ (.int .i64 (m))).setCell ⟨g, j * 5 + 1, none⟩ (.bool ((m + 1) % 3 == 0))).setCell ⟨g, j * 5 + 2, none⟩ (.bool ((m + 1 + 1) % 3 == 0))).setCell ⟨g, j * 5 + 3, none⟩ (.int .i64 (m + 1 + 1 + 1))) base g (markL mkPort cPort k (l.take j) ++ ({ x with id := m, out := (m + 1) % 3 == 0, queue := (m + 1 + 1) % 3 == 0, max := m + 1 + 1 + 1 } : PortD) :: l.drop (j + 1)) ∧ KeptBut w ((((wr.setCell ⟨g, j * 5, none⟩ (.int .i64 (m))).setCell ⟨g, j * 5 + 1, none⟩ (.bool ((m + 1) % 3 == 0))).setCell ⟨g, j * 5 + 2, none⟩ (.bool ((m + 1 + 1) % 3 == 0))).setCell ⟨g, j * 5 + 3, none⟩ (.int .i64 (m + 1 + 1 + 1))) (g :: l.filterMap portN.kid)) := ⟨h5, (HM.out.keep h6).turn rfl ((HM.out.keep h6).mine x (by simp)), HA.out.2.2.2.trans (h6.mono (by simp))⟩
   clear h5 h6
   go_wp2_with fail
   generalize (((wr.setCell ⟨g, j * 5, none⟩ (.int .i64 (m))).setCell ⟨g, j * 5 + 1, none⟩ (.bool ((m + 1) % 3 == 0))).setCell ⟨g, j * 5 + 2, none⟩ (.bool ((m + 1 + 1) % 3 == 0))).setCell ⟨g, j * 5 + 3, none⟩ (.int .i64 (m + 1 + 1 + 1)) = W1 at *
   refine (markSStr_l x.itemsA x.items x.itemsC (m + 1 + 1 + 1 + 1) W1 base HX.out.2.1 (by omega) HX.out.2.2.1 (HS.out.2.1.mine ({ x with id := m, out := (m + 1) % 3 == 0, queue := (m + 1 + 1) % 3 == 0, max := m + 1 + 1 + 1 } : PortD) (by simp))).mono ?_
   rintro e v ⟨rfl, hown, hkb⟩
   have HV : Hid (RowAt portK 61 v base g cap (markL mkPort cPort k (l.take (j + 1)) ++ l.drop (j + 1)) ∧ Mines portN v base g (markL mkPort cPort k (l.take (j + 1)) ++ l.drop (j + 1)) ∧ KeptBut w v (g :: l.filterMap portN.kid)) := by
    have hap := HS.out.2.1.apart (z := ({ x with id := m, out := (m + 1) % 3 == 0, queue := (m + 1 + 1) % 3 == 0, max := m + 1 + 1 + 1 } : PortD)) (by simp)
    rw [markL_up HX.out.1, List.append_assoc, ← HA.out.1]
    have h7 := HS.out.1.same (hkb.same g HS.out.1.lt hap)
    have hm7 : portN.Mine v base (mkPort m x) := by
     show v.ownsRow base _ 1 (.slice x.itemsA (markL mkStr (fun _ => 1) (m + 1 + 1 + 1 + 1) x.items).length x.itemsC) (markL mkStr (fun _ => 1) (m + 1 + 1 + 1 + 1) x.items).length (strK.flat (markL mkStr (fun _ => 1) (m + 1 + 1 + 1 + 1) x.items))
     rw [markL_length]
     exact hown
    refine ⟨?_, HS.out.2.1.inner hkb rfl hm7, HS.out.2.2.trans (hkb.mono fun b hb => ?_)⟩
    ·exact RowAt.part (K := portK) (x := ({ x with id := m, out := (m + 1) % 3 == 0, queue := (m + 1 + 1) % 3 == 0, max := m + 1 + 1 + 1 } : PortD)) (y := mkPort m x) (j := 0) (vs := []) h7 (by show 0 + 0 ≤ 5; omega) (fun r hr => absurd hr (by simp)) (fun r hr _ => by match r, hr with | 0, _ => rfl | 1, _ => rfl | 2, _ => rfl | 3, _ => rfl | 4, _ => (show some (Value.slice x.itemsA (markL mkStr (fun _ => 1) (m + 1 + 1 + 1 + 1) x.items).length x.itemsC) = some (.slice x.itemsA x.items.length x.itemsC); rw [markL_length]))
    ·exact List.mem_cons_of_mem _ (List.mem_filterMap.2 ⟨x, List.mem_of_getElem? HX.out.1, mem_blk.1 hb⟩)
   clear hown hkb HS
   have m3 : m + 1 + 1 + 1 + 1 + (cntL (fun _ : ByteArray => 1) x.items : Nat) ≤ 90000000 := HX.out.2.2.1
   go_wp2
   go_roundw
   case rel => exact ⟨j + 1, m + 1 + 1 + 1 + 1 + (cntL (fun _ : ByteArray => 1) x.items : Nat), by omega, by go_num, rfl, by omega, by omega, ⟨HX.out.2.2.2, HV.out.1, HV.out.2.1, HV.out.2.2⟩⟩
   case measure => simp [intOf]; omega
  ·have i1 : ¬ (j : Int) < (l.length : Int) := by omega
   have ej : j = l.length := by omega
   subst ej
   have HE : Hid (RowAt portK 61 wr base g cap (markL mkPort cPort k l) ∧ Mines portN wr base g (markL mkPort cPort k l) ∧ m = k + (cntL cPort l : Nat)) := by have h5 := HA.out.2.1; have h6 := HA.out.1; have h7 := HA.out.2.2.1; rw [List.take_length, List.drop_length, List.append_nil] at h5 h7; rw [List.take_length] at h6; exact ⟨h5, h7, h6⟩
   go_wp2
   go_ret
   refine ⟨ret_int HE.out.2.2, ?_, HE.out.2.1.mine, HA.out.2.2.2⟩
   have h7 := HE.out.1.owns
   rw [markL_length] at h7
   exact h7

set_option maxRecDepth 100000 in
set_option maxHeartbeats 4000000 in
theorem heldSPort_l (a : Option Addr) (l : List PortD) (cap : Nat) (k : Int) (w : World) (hl : l.length ≤ 1048576) (hk : ∀ x ∈ l, x.items.length ≤ 1048576) (h0 : 1 ≤ k) (h1 : k + (cntL cPort l : Nat) ≤ 90000000) (hr : portK.Lies w a (markL mkPort cPort k l)) :
  Calls Tryz.prog 140 #[.slice a l.length cap, .int .i64 k] w fun e w' => e = .returned (.int .i64 (k + (cntL cPort l : Nat))) ∧ Below w.heap.size w w' := by
 have HR : Hid (portK.Lies w a (markL mkPort cPort k l) ∧ k + (cntL cPort l : Nat) ≤ 90000000 ∧ ∀ x ∈ l, x.items.length ≤ 1048576) := ⟨hr, h1, hk⟩
 clear hr h1 hk
 go_enter Tryz.func140, Tryz.ntmps140
 go_wp2_with fail
 go_loopw [1, 5] (fun q i wr => ∃ (j : Nat) (m : Int), j ≤ l.length ∧ i = .int .i64 j ∧ q = .int .i64 m ∧ 1 ≤ m ∧ m ≤ 90000000 ∧ Hid (m = k + (cntL cPort (l.take j) : Nat) ∧ Below w.heap.size w wr)) (fun _ i _ => l.length - (intOf i).toNat)
 case atStart => exact ⟨0, k, Nat.zero_le _, rfl, rfl, h0, by have := HR.out.2.1; omega, ⟨by simp [cntL], Below.refl _ _⟩⟩
 case round =>
  obtain ⟨j, m, hj, rfl, rfl, m0, m1, HA⟩ := hrel
  by_cases hlt : j < l.length
  ·have i0 : (0 : Int) ≤ (j : Int) := by omega
   have i1 : (j : Int) < (l.length : Int) := by omega
   obtain ⟨x, hx⟩ : ∃ x, l[j]? = some x := ⟨_, List.getElem?_eq_getElem hlt⟩
   have hcn := cntL_take_lt (c := cPort) hx
   have hup := cntL_up (c := cPort) hx
   have hcx : cPort x = 4 + cntL (fun _ : ByteArray => 1) x.items := rfl
   have hg := markL_get (f := mkPort) (c := cPort) (k := k) hx
   rw [← HA.out.1] at hg
   have hls : portK.Lies wr a (markL mkPort cPort k l) := HR.out.1.below HA.out.2
   obtain ⟨g, ha, hat⟩ := hls.at hg
   have c0 : wr.cell? ⟨g, j * 5, none⟩ = some (.int .i64 (m)) := hat 0 _ rfl
   have c1 : wr.cell? ⟨g, j * 5 + 1, none⟩ = some (.bool ((m + 1) % 3 == 0)) := hat 1 _ rfl
   have c2 : wr.cell? ⟨g, j * 5 + 2, none⟩ = some (.bool ((m + 1 + 1) % 3 == 0)) := hat 2 _ rfl
   have c3 : wr.cell? ⟨g, j * 5 + 3, none⟩ = some (.int .i64 (m + 1 + 1 + 1)) := hat 3 _ rfl
   have cp : wr.cell? ⟨g, j * 5 + 4, none⟩ = some (.slice x.itemsA x.items.length x.itemsC) := (hat 4 _ rfl).trans (show some (Value.slice x.itemsA (markL mkStr (fun _ => 1) (m + 1 + 1 + 1 + 1) x.items).length x.itemsC) = _ by rw [markL_length])
   have HX : Hid (x.items.length ≤ 1048576 ∧ m + 1 + 1 + 1 + 1 + (cntL (fun _ : ByteArray => 1) x.items : Nat) ≤ 90000000 ∧ m + 1 + 1 + 1 + 1 + (cntL (fun _ : ByteArray => 1) x.items : Nat) = k + (cntL cPort (l.take (j + 1)) : Nat) ∧ strK.Lies wr x.itemsA (markL mkStr (fun _ => 1) (m + 1 + 1 + 1 + 1) x.items)) := ⟨HR.out.2.2 x (List.mem_of_getElem? hx), by have := HR.out.2.1; have := HA.out.1; omega, by have := HA.out.1; omega, hls.2 _ (List.mem_of_getElem? hg) (x.itemsA, strK.flat (markL mkStr (fun _ => 1) (m + 1 + 1 + 1 + 1) x.items)) (List.mem_singleton.2 rfl), fun _ _ r hr => by cases hr⟩
   have m2 : m + 1 + 1 + 1 + 1 + (cntL (fun _ : ByteArray => 1) x.items : Nat) ≤ 90000000 := HX.out.2.1
   subst ha
   clear hx hcn hup hcx hg hat hls
   go_wp2_with fail
   refine (heldSStr_l x.itemsA x.items x.itemsC (m + 1 + 1 + 1 + 1) wr HX.out.1 (by omega) HX.out.2.1 HX.out.2.2.2).mono ?_
   rintro e v ⟨rfl, hb⟩
   have HV : Hid (Below w.heap.size w v) := HA.out.2.trans (hb.mono HA.out.2.size)
   clear hb
   go_wp2
   go_roundw
   case rel => exact ⟨j + 1, m + 1 + 1 + 1 + 1 + (cntL (fun _ : ByteArray => 1) x.items : Nat), by omega, by go_num, rfl, by omega, by omega, ⟨HX.out.2.2.1, HV.out⟩⟩
   case measure => simp [intOf]; omega
  ·have i1 : ¬ (j : Int) < (l.length : Int) := by omega
   have HE : Hid (m = k + (cntL cPort l : Nat)) := by have h6 := HA.out.1; rw [List.take_of_length_le (by omega)] at h6; exact h6
   go_wp2
   go_ret
   exact ⟨ret_int HE.out, HA.out.2⟩

end Go.Proofs.YtkbcplnlehdjfaaGreat

/- A partition in memory of its own, while it is made: a thing more in one of its lists. (Made by mkpartadd.py.) -/
namespace Go.Proofs.YtkbcplnlehdjfaaGreat
open Go.RowKit

theorem nodup_grow {Z A A' K k R : List Nat} (h : (Z ++ (A ++ (K ++ R))).Nodup) (hA : A'.Nodup) (hk : k.Nodup) (h1 : ∀ g ∈ A', g ∉ Z ∧ g ∉ K ∧ g ∉ k ∧ g ∉ R) (h2 : ∀ g ∈ k, g ∉ Z ∧ g ∉ K ∧ g ∉ R) : (Z ++ (A' ++ ((K ++ k) ++ R))).Nodup := by
 simp only [List.nodup_append, List.mem_append] at h ⊢
 obtain ⟨hz, ⟨-, ⟨hK, hR, hKR⟩, -⟩, hzz⟩ := h
 refine ⟨hz, ⟨hA, ⟨⟨hK, hk, fun a ha b hb e => (h2 b hb).2.1 (e ▸ ha)⟩, hR, fun a ha b hb e => ?_⟩, fun a ha b hb e => ?_⟩, fun a ha b hb e => ?_⟩
 ·rcases ha with ha | ha
  ·exact hKR a ha b hb e
  ·exact (h2 a ha).2.2 (e ▸ hb)
 ·subst e
  rcases hb with (hb | hb) | hb
  ·exact (h1 a ha).2.1 hb
  ·exact (h1 a ha).2.2.1 hb
  ·exact (h1 a ha).2.2.2 hb
 ·subst e
  rcases hb with hb | (hb | hb) | hb
  ·exact (h1 a hb).1 ha
  ·exact hzz a ha a (.inr (.inl hb)) rfl
  ·exact (h2 a hb).1 ha
  ·exact hzz a ha a (.inr (.inr hb)) rfl
theorem blk_nodup (a : Option Addr) : (blk a).Nodup := by cases a <;> simp [blk]
theorem kidL_nodup {α : Type} (N : Nest α) (x : α) : ([x].filterMap N.kid).Nodup := by
 cases h : N.kid x <;> simp [h]
theorem exists_kid {α : Type} {N : Nest α} {l : List α} {y : α} {g : Nat} (hy : y ∈ l) (hk : N.kid y = some g) : (∃ a, a ∈ l ∧ N.kid a = some g) = True := by simp only [eq_iff_iff, iff_true]; exact ⟨y, hy, hk⟩
theorem mem_kidL {α : Type} {N : Nest α} {x : α} {g : Nat} : g ∈ [x].filterMap N.kid ↔ N.kid x = some g := by simp

/-- One more of the kind Proc. -/
theorem PartOwn.addProc {w w' : World} {base : Nat} {q : PartD} {x : ProcD} {a : Option Addr} {c : Nat} (h : PartOwn w base q) (hm : procN.Mine w base x) (hx : ∀ g, procN.kid x = some g → g ∉ q.blocks)
  (ho : w'.ownsRow base 43 12 (.slice a (q.procs.length + 1) c) (q.procs.length + 1) (procK.flat (q.procs ++ [x]))) (hg : ∀ g, g < w.heap.size → g ∉ blk q.procA → w'.heap[g]? = w.heap[g]?) (hb : ∀ g ∈ blk a, g ∈ blk q.procA ∨ g = w.heap.size) :
  PartOwn w' base ({ q with procs := q.procs ++ [x], procA := a, procC := c } : PartD) ∧ ∀ g ∈ ({ q with procs := q.procs ++ [x], procA := a, procC := c } : PartD).blocks, g ∈ q.blocks ∨ procN.kid x = some g ∨ g = w.heap.size := by
 have hbs : q.blocks = [] ++ (blk q.procA ++ (q.procs.filterMap procN.kid ++ (blk q.semA ++ (blk q.eventA ++ (blk q.boardA ++ (blk q.bufferA ++ (q.buffers.filterMap bufferN.kid ++ (blk q.portA ++ q.ports.filterMap portN.kid)))))))) := by simp [PartD.blocks]
 have hbn : ({ q with procs := q.procs ++ [x], procA := a, procC := c } : PartD).blocks = [] ++ (blk a ++ ((q.procs.filterMap procN.kid ++ [x].filterMap procN.kid) ++ (blk q.semA ++ (blk q.eventA ++ (blk q.boardA ++ (blk q.bufferA ++ (q.buffers.filterMap bufferN.kid ++ (blk q.portA ++ q.ports.filterMap portN.kid)))))))) := by simp only [PartD.blocks, List.append_assoc, List.filterMap_append, List.nil_append]
 have hnd := h.nodup
 rw [hbs] at hnd
 have hlt : ∀ g ∈ q.blocks, g < w.heap.size := fun g hg => (h.lt g hg).2
 have hapart : ∀ g ∈ q.blocks, g ∉ blk q.procA → w'.heap[g]? = w.heap[g]? := fun g hgm hn => hg g (hlt g hgm) hn
 have hdis : ∀ g, (g ∈ [] ∨ g ∈ q.procs.filterMap procN.kid ∨ g ∈ (blk q.semA ++ (blk q.eventA ++ (blk q.boardA ++ (blk q.bufferA ++ (q.buffers.filterMap bufferN.kid ++ (blk q.portA ++ q.ports.filterMap portN.kid))))))) → g ∉ blk q.procA := fun g hgm hA => by
  obtain ⟨-, h2, h3⟩ := List.nodup_append.1 hnd
  obtain ⟨-, -, h4⟩ := List.nodup_append.1 h2
  rcases hgm with hgm | hgm | hgm
  ·exact h3 g hgm g (List.mem_append_left _ hA) rfl
  ·exact h4 g hA g (List.mem_append_left _ hgm) rfl
  ·exact h4 g hA g (List.mem_append_right _ hgm) rfl
 have hmem : ∀ g, (g ∈ [] ∨ g ∈ q.procs.filterMap procN.kid ∨ g ∈ (blk q.semA ++ (blk q.eventA ++ (blk q.boardA ++ (blk q.bufferA ++ (q.buffers.filterMap bufferN.kid ++ (blk q.portA ++ q.ports.filterMap portN.kid))))))) → g ∈ q.blocks := fun g hgm => by
  rw [hbs]
  simp only [List.mem_append]
  simp only [List.mem_append] at hgm
  rcases hgm with hgm | hgm | hgm
  ·exact .inl hgm
  ·exact .inr (.inr (.inl hgm))
  ·exact .inr (.inr (.inr hgm))
 have hs : ∀ g, (g ∈ [] ∨ g ∈ q.procs.filterMap procN.kid ∨ g ∈ (blk q.semA ++ (blk q.eventA ++ (blk q.boardA ++ (blk q.bufferA ++ (q.buffers.filterMap bufferN.kid ++ (blk q.portA ++ q.ports.filterMap portN.kid))))))) → w'.heap[g]? = w.heap[g]? := fun g hgm => hapart g (hmem g hgm) (hdis g hgm)
 have hxs : ∀ g, procN.kid x = some g → w'.heap[g]? = w.heap[g]? := fun g hk => hg g (hm.lt hk).2 fun hA => hx g hk (by rw [hbs]; simp only [List.mem_append]; exact .inr (.inl hA))
 refine ⟨⟨(by simpa using ho), own_same h.sems fun g hgm => hs g (.inr <| .inr (by simp [hgm])), own_same h.events fun g hgm => hs g (.inr <| .inr (by simp [hgm])), own_same h.boards fun g hgm => hs g (.inr <| .inr (by simp [hgm])), own_same h.buffers fun g hgm => hs g (.inr <| .inr (by simp [hgm])), own_same h.ports fun g hgm => hs g (.inr <| .inr (by simp [hgm])), fun y hy => by
  rcases List.mem_append.1 hy with hy | hy
  ·exact (h.mineP y hy).same fun g hk => hs g (.inr (.inl (List.mem_filterMap.2 ⟨y, hy, hk⟩)))
  ·simp only [List.mem_cons, List.not_mem_nil, or_false] at hy
   subst hy
   exact hm.same hxs, fun y hy => (h.mineF y hy).same fun g hk => hs g (.inr <| .inr (by simp only [List.mem_append, List.mem_filterMap]; simp [exists_kid hy hk])), fun y hy => (h.mineQ y hy).same fun g hk => hs g (.inr <| .inr (by simp only [List.mem_append, List.mem_filterMap]; simp [exists_kid hy hk])), ?_⟩, ?_⟩
 ·rw [hbn]
  refine nodup_grow hnd (blk_nodup a) (kidL_nodup _ x) (fun g hga => ?_) (fun g hgk => ?_)
  ·have key : ∀ g', (g' ∈ [] ∨ g' ∈ q.procs.filterMap procN.kid ∨ g' ∈ (blk q.semA ++ (blk q.eventA ++ (blk q.boardA ++ (blk q.bufferA ++ (q.buffers.filterMap bufferN.kid ++ (blk q.portA ++ q.ports.filterMap portN.kid))))))) → g' ≠ g := fun g' hg' e => by
    rcases hb g hga with h1 | h1
    ·exact hdis g' hg' (e ▸ h1)
    ·have := hlt g' (hmem g' hg')
     omega
   refine ⟨fun hz => key g (.inl hz) rfl, fun hz => key g (.inr (.inl hz)) rfl, fun hz => ?_, fun hz => key g (.inr (.inr hz)) rfl⟩
   rw [mem_kidL] at hz
   rcases hb g hga with h1 | h1
   ·exact hx g hz (by rw [hbs]; simp only [List.mem_append]; exact .inr (.inl h1))
   ·have := (hm.lt hz).2
    omega
  ·rw [mem_kidL] at hgk
   have hn := hx g hgk
   exact ⟨fun hz => hn (hmem g (.inl hz)), fun hz => hn (hmem g (.inr (.inl hz))), fun hz => hn (hmem g (.inr (.inr hz)))⟩
 ·intro g hgm
  rw [hbn] at hgm
  rw [hbs]
  simp only [List.mem_append] at hgm ⊢
  rcases hgm with hgm | hgm | (hgm | hgm) | hgm
  ·exact .inl (.inl hgm)
  ·rcases hb g hgm with h1 | h1
   ·exact .inl (.inr (.inl h1))
   ·exact .inr (.inr h1)
  ·exact .inl (.inr (.inr (.inl hgm)))
  ·exact .inr (.inl (mem_kidL.1 hgm))
  ·exact .inl (.inr (.inr (.inr hgm)))

/-- One more of the kind Buffer. -/
theorem PartOwn.addBuffer {w w' : World} {base : Nat} {q : PartD} {x : BufferD} {a : Option Addr} {c : Nat} (h : PartOwn w base q) (hm : bufferN.Mine w base x) (hx : ∀ g, bufferN.kid x = some g → g ∉ q.blocks)
  (ho : w'.ownsRow base 144 3 (.slice a (q.buffers.length + 1) c) (q.buffers.length + 1) (bufferK.flat (q.buffers ++ [x]))) (hg : ∀ g, g < w.heap.size → g ∉ blk q.bufferA → w'.heap[g]? = w.heap[g]?) (hb : ∀ g ∈ blk a, g ∈ blk q.bufferA ∨ g = w.heap.size) :
  PartOwn w' base ({ q with buffers := q.buffers ++ [x], bufferA := a, bufferC := c } : PartD) ∧ ∀ g ∈ ({ q with buffers := q.buffers ++ [x], bufferA := a, bufferC := c } : PartD).blocks, g ∈ q.blocks ∨ bufferN.kid x = some g ∨ g = w.heap.size := by
 have hbs : q.blocks = (blk q.procA ++ q.procs.filterMap procN.kid ++ blk q.semA ++ blk q.eventA ++ blk q.boardA) ++ (blk q.bufferA ++ (q.buffers.filterMap bufferN.kid ++ (blk q.portA ++ q.ports.filterMap portN.kid))) := by simp [PartD.blocks, List.append_assoc]
 have hbn : ({ q with buffers := q.buffers ++ [x], bufferA := a, bufferC := c } : PartD).blocks = (blk q.procA ++ q.procs.filterMap procN.kid ++ blk q.semA ++ blk q.eventA ++ blk q.boardA) ++ (blk a ++ ((q.buffers.filterMap bufferN.kid ++ [x].filterMap bufferN.kid) ++ (blk q.portA ++ q.ports.filterMap portN.kid))) := by simp only [PartD.blocks, List.append_assoc, List.filterMap_append]
 have hnd := h.nodup
 rw [hbs] at hnd
 have hlt : ∀ g ∈ q.blocks, g < w.heap.size := fun g hg => (h.lt g hg).2
 have hapart : ∀ g ∈ q.blocks, g ∉ blk q.bufferA → w'.heap[g]? = w.heap[g]? := fun g hgm hn => hg g (hlt g hgm) hn
 have hdis : ∀ g, (g ∈ (blk q.procA ++ q.procs.filterMap procN.kid ++ blk q.semA ++ blk q.eventA ++ blk q.boardA) ∨ g ∈ q.buffers.filterMap bufferN.kid ∨ g ∈ (blk q.portA ++ q.ports.filterMap portN.kid)) → g ∉ blk q.bufferA := fun g hgm hA => by
  obtain ⟨-, h2, h3⟩ := List.nodup_append.1 hnd
  obtain ⟨-, -, h4⟩ := List.nodup_append.1 h2
  rcases hgm with hgm | hgm | hgm
  ·exact h3 g hgm g (List.mem_append_left _ hA) rfl
  ·exact h4 g hA g (List.mem_append_left _ hgm) rfl
  ·exact h4 g hA g (List.mem_append_right _ hgm) rfl
 have hmem : ∀ g, (g ∈ (blk q.procA ++ q.procs.filterMap procN.kid ++ blk q.semA ++ blk q.eventA ++ blk q.boardA) ∨ g ∈ q.buffers.filterMap bufferN.kid ∨ g ∈ (blk q.portA ++ q.ports.filterMap portN.kid)) → g ∈ q.blocks := fun g hgm => by
  rw [hbs]
  simp only [List.mem_append]
  simp only [List.mem_append] at hgm
  rcases hgm with hgm | hgm | hgm
  ·exact .inl hgm
  ·exact .inr (.inr (.inl hgm))
  ·exact .inr (.inr (.inr hgm))
 have hs : ∀ g, (g ∈ (blk q.procA ++ q.procs.filterMap procN.kid ++ blk q.semA ++ blk q.eventA ++ blk q.boardA) ∨ g ∈ q.buffers.filterMap bufferN.kid ∨ g ∈ (blk q.portA ++ q.ports.filterMap portN.kid)) → w'.heap[g]? = w.heap[g]? := fun g hgm => hapart g (hmem g hgm) (hdis g hgm)
 have hxs : ∀ g, bufferN.kid x = some g → w'.heap[g]? = w.heap[g]? := fun g hk => hg g (hm.lt hk).2 fun hA => hx g hk (by rw [hbs]; simp only [List.mem_append]; exact .inr (.inl hA))
 refine ⟨⟨own_same h.procs fun g hgm => hs g (.inl (by simp [hgm])), own_same h.sems fun g hgm => hs g (.inl (by simp [hgm])), own_same h.events fun g hgm => hs g (.inl (by simp [hgm])), own_same h.boards fun g hgm => hs g (.inl (by simp [hgm])), (by simpa using ho), own_same h.ports fun g hgm => hs g (.inr <| .inr (by simp [hgm])), fun y hy => (h.mineP y hy).same fun g hk => hs g (.inl (by simp only [List.mem_append, List.mem_filterMap]; simp [exists_kid hy hk])), fun y hy => by
  rcases List.mem_append.1 hy with hy | hy
  ·exact (h.mineF y hy).same fun g hk => hs g (.inr (.inl (List.mem_filterMap.2 ⟨y, hy, hk⟩)))
  ·simp only [List.mem_cons, List.not_mem_nil, or_false] at hy
   subst hy
   exact hm.same hxs, fun y hy => (h.mineQ y hy).same fun g hk => hs g (.inr <| .inr (by simp only [List.mem_append, List.mem_filterMap]; simp [exists_kid hy hk])), ?_⟩, ?_⟩
 ·rw [hbn]
  refine nodup_grow hnd (blk_nodup a) (kidL_nodup _ x) (fun g hga => ?_) (fun g hgk => ?_)
  ·have key : ∀ g', (g' ∈ (blk q.procA ++ q.procs.filterMap procN.kid ++ blk q.semA ++ blk q.eventA ++ blk q.boardA) ∨ g' ∈ q.buffers.filterMap bufferN.kid ∨ g' ∈ (blk q.portA ++ q.ports.filterMap portN.kid)) → g' ≠ g := fun g' hg' e => by
    rcases hb g hga with h1 | h1
    ·exact hdis g' hg' (e ▸ h1)
    ·have := hlt g' (hmem g' hg')
     omega
   refine ⟨fun hz => key g (.inl hz) rfl, fun hz => key g (.inr (.inl hz)) rfl, fun hz => ?_, fun hz => key g (.inr (.inr hz)) rfl⟩
   rw [mem_kidL] at hz
   rcases hb g hga with h1 | h1
   ·exact hx g hz (by rw [hbs]; simp only [List.mem_append]; exact .inr (.inl h1))
   ·have := (hm.lt hz).2
    omega
  ·rw [mem_kidL] at hgk
   have hn := hx g hgk
   exact ⟨fun hz => hn (hmem g (.inl hz)), fun hz => hn (hmem g (.inr (.inl hz))), fun hz => hn (hmem g (.inr (.inr hz)))⟩
 ·intro g hgm
  rw [hbn] at hgm
  rw [hbs]
  simp only [List.mem_append] at hgm ⊢
  rcases hgm with hgm | hgm | (hgm | hgm) | hgm
  ·exact .inl (.inl hgm)
  ·rcases hb g hgm with h1 | h1
   ·exact .inl (.inr (.inl h1))
   ·exact .inr (.inr h1)
  ·exact .inl (.inr (.inr (.inl hgm)))
  ·exact .inr (.inl (mem_kidL.1 hgm))
  ·exact .inl (.inr (.inr (.inr hgm)))

/-- One more of the kind Port. -/
theorem PartOwn.addPort {w w' : World} {base : Nat} {q : PartD} {x : PortD} {a : Option Addr} {c : Nat} (h : PartOwn w base q) (hm : portN.Mine w base x) (hx : ∀ g, portN.kid x = some g → g ∉ q.blocks)
  (ho : w'.ownsRow base 61 5 (.slice a (q.ports.length + 1) c) (q.ports.length + 1) (portK.flat (q.ports ++ [x]))) (hg : ∀ g, g < w.heap.size → g ∉ blk q.portA → w'.heap[g]? = w.heap[g]?) (hb : ∀ g ∈ blk a, g ∈ blk q.portA ∨ g = w.heap.size) :
  PartOwn w' base ({ q with ports := q.ports ++ [x], portA := a, portC := c } : PartD) ∧ ∀ g ∈ ({ q with ports := q.ports ++ [x], portA := a, portC := c } : PartD).blocks, g ∈ q.blocks ∨ portN.kid x = some g ∨ g = w.heap.size := by
 have hbs : q.blocks = (blk q.procA ++ q.procs.filterMap procN.kid ++ blk q.semA ++ blk q.eventA ++ blk q.boardA ++ blk q.bufferA ++ q.buffers.filterMap bufferN.kid) ++ (blk q.portA ++ (q.ports.filterMap portN.kid ++ [])) := by simp [PartD.blocks, List.append_assoc]
 have hbn : ({ q with ports := q.ports ++ [x], portA := a, portC := c } : PartD).blocks = (blk q.procA ++ q.procs.filterMap procN.kid ++ blk q.semA ++ blk q.eventA ++ blk q.boardA ++ blk q.bufferA ++ q.buffers.filterMap bufferN.kid) ++ (blk a ++ ((q.ports.filterMap portN.kid ++ [x].filterMap portN.kid) ++ [])) := by simp only [PartD.blocks, List.append_assoc, List.filterMap_append, List.append_nil]
 have hnd := h.nodup
 rw [hbs] at hnd
 have hlt : ∀ g ∈ q.blocks, g < w.heap.size := fun g hg => (h.lt g hg).2
 have hapart : ∀ g ∈ q.blocks, g ∉ blk q.portA → w'.heap[g]? = w.heap[g]? := fun g hgm hn => hg g (hlt g hgm) hn
 have hdis : ∀ g, (g ∈ (blk q.procA ++ q.procs.filterMap procN.kid ++ blk q.semA ++ blk q.eventA ++ blk q.boardA ++ blk q.bufferA ++ q.buffers.filterMap bufferN.kid) ∨ g ∈ q.ports.filterMap portN.kid ∨ g ∈ []) → g ∉ blk q.portA := fun g hgm hA => by
  obtain ⟨-, h2, h3⟩ := List.nodup_append.1 hnd
  obtain ⟨-, -, h4⟩ := List.nodup_append.1 h2
  rcases hgm with hgm | hgm | hgm
  ·exact h3 g hgm g (List.mem_append_left _ hA) rfl
  ·exact h4 g hA g (List.mem_append_left _ hgm) rfl
  ·exact h4 g hA g (List.mem_append_right _ hgm) rfl
 have hmem : ∀ g, (g ∈ (blk q.procA ++ q.procs.filterMap procN.kid ++ blk q.semA ++ blk q.eventA ++ blk q.boardA ++ blk q.bufferA ++ q.buffers.filterMap bufferN.kid) ∨ g ∈ q.ports.filterMap portN.kid ∨ g ∈ []) → g ∈ q.blocks := fun g hgm => by
  rw [hbs]
  simp only [List.mem_append]
  simp only [List.mem_append] at hgm
  rcases hgm with hgm | hgm | hgm
  ·exact .inl hgm
  ·exact .inr (.inr (.inl hgm))
  ·exact .inr (.inr (.inr hgm))
 have hs : ∀ g, (g ∈ (blk q.procA ++ q.procs.filterMap procN.kid ++ blk q.semA ++ blk q.eventA ++ blk q.boardA ++ blk q.bufferA ++ q.buffers.filterMap bufferN.kid) ∨ g ∈ q.ports.filterMap portN.kid ∨ g ∈ []) → w'.heap[g]? = w.heap[g]? := fun g hgm => hapart g (hmem g hgm) (hdis g hgm)
 have hxs : ∀ g, portN.kid x = some g → w'.heap[g]? = w.heap[g]? := fun g hk => hg g (hm.lt hk).2 fun hA => hx g hk (by rw [hbs]; simp only [List.mem_append]; exact .inr (.inl hA))
 refine ⟨⟨own_same h.procs fun g hgm => hs g (.inl (by simp [hgm])), own_same h.sems fun g hgm => hs g (.inl (by simp [hgm])), own_same h.events fun g hgm => hs g (.inl (by simp [hgm])), own_same h.boards fun g hgm => hs g (.inl (by simp [hgm])), own_same h.buffers fun g hgm => hs g (.inl (by simp [hgm])), (by simpa using ho), fun y hy => (h.mineP y hy).same fun g hk => hs g (.inl (by simp only [List.mem_append, List.mem_filterMap]; simp [exists_kid hy hk])), fun y hy => (h.mineF y hy).same fun g hk => hs g (.inl (by simp only [List.mem_append, List.mem_filterMap]; simp [exists_kid hy hk])), fun y hy => by
  rcases List.mem_append.1 hy with hy | hy
  ·exact (h.mineQ y hy).same fun g hk => hs g (.inr (.inl (List.mem_filterMap.2 ⟨y, hy, hk⟩)))
  ·simp only [List.mem_cons, List.not_mem_nil, or_false] at hy
   subst hy
   exact hm.same hxs, ?_⟩, ?_⟩
 ·rw [hbn]
  refine nodup_grow hnd (blk_nodup a) (kidL_nodup _ x) (fun g hga => ?_) (fun g hgk => ?_)
  ·have key : ∀ g', (g' ∈ (blk q.procA ++ q.procs.filterMap procN.kid ++ blk q.semA ++ blk q.eventA ++ blk q.boardA ++ blk q.bufferA ++ q.buffers.filterMap bufferN.kid) ∨ g' ∈ q.ports.filterMap portN.kid ∨ g' ∈ []) → g' ≠ g := fun g' hg' e => by
    rcases hb g hga with h1 | h1
    ·exact hdis g' hg' (e ▸ h1)
    ·have := hlt g' (hmem g' hg')
     omega
   refine ⟨fun hz => key g (.inl hz) rfl, fun hz => key g (.inr (.inl hz)) rfl, fun hz => ?_, fun hz => key g (.inr (.inr hz)) rfl⟩
   rw [mem_kidL] at hz
   rcases hb g hga with h1 | h1
   ·exact hx g hz (by rw [hbs]; simp only [List.mem_append]; exact .inr (.inl h1))
   ·have := (hm.lt hz).2
    omega
  ·rw [mem_kidL] at hgk
   have hn := hx g hgk
   exact ⟨fun hz => hn (hmem g (.inl hz)), fun hz => hn (hmem g (.inr (.inl hz))), fun hz => hn (hmem g (.inr (.inr hz)))⟩
 ·intro g hgm
  rw [hbn] at hgm
  rw [hbs]
  simp only [List.mem_append] at hgm ⊢
  rcases hgm with hgm | hgm | (hgm | hgm) | hgm
  ·exact .inl (.inl hgm)
  ·rcases hb g hgm with h1 | h1
   ·exact .inl (.inr (.inl h1))
   ·exact .inr (.inr h1)
  ·exact .inl (.inr (.inr (.inl hgm)))
  ·exact .inr (.inl (mem_kidL.1 hgm))
  ·exact .inl (.inr (.inr (.inr hgm)))

end Go.Proofs.YtkbcplnlehdjfaaGreat

/- A partition in memory of its own, marked, and read again. (Made by mkmarkpart.py.) -/
namespace Go.Proofs.YtkbcplnlehdjfaaGreat
open Go.RowKit
attribute [local go_sem ↓] Go.wp_at_zero Go.wp_at_succ

theorem markL_kid {α : Type} {N : Nest α} {f : Int → α → α} {c : α → Nat} (h : ∀ k x, N.kid (f k x) = N.kid x) : ∀ (k : Int) (l : List α), (markL f c k l).filterMap N.kid = l.filterMap N.kid
 | _, [] => rfl
 | k, x :: r => by simp only [markL, List.filterMap_cons, h, markL_kid h (k + c x) r]
/-- The list of the kind Proc is turned. -/
theorem PartOwn.turnProc {w w' : World} {base : Nat} {q : PartD} {l : List ProcD} (h : PartOwn w base q) (ho : w'.ownsRow base 43 12 (.slice q.procA q.procs.length q.procC) q.procs.length (procK.flat l)) (hl : l.length = q.procs.length) (hm : ∀ y ∈ l, procN.Mine w' base y) (hki : l.filterMap procN.kid = q.procs.filterMap procN.kid) (hk : KeptBut w w' (blk q.procA ++ q.procs.filterMap procN.kid)) :
  PartOwn w' base ({ q with procs := l } : PartD) ∧ ({ q with procs := l } : PartD).blocks = q.blocks := by
 have hbs : q.blocks = [] ++ ((blk q.procA ++ q.procs.filterMap procN.kid) ++ (blk q.semA ++ (blk q.eventA ++ (blk q.boardA ++ (blk q.bufferA ++ (q.buffers.filterMap bufferN.kid ++ (blk q.portA ++ (q.ports.filterMap portN.kid)))))))) := by simp [PartD.blocks, List.append_assoc]
 have hbn : ({ q with procs := l } : PartD).blocks = q.blocks := by simp only [PartD.blocks, hki]
 have hnd := h.nodup
 rw [hbs] at hnd
 have hdis : ∀ g, (g ∈ [] ∨ g ∈ (blk q.semA ++ (blk q.eventA ++ (blk q.boardA ++ (blk q.bufferA ++ (q.buffers.filterMap bufferN.kid ++ (blk q.portA ++ (q.ports.filterMap portN.kid)))))))) → g ∉ (blk q.procA ++ q.procs.filterMap procN.kid) := fun g hgm hA => by
  obtain ⟨-, h2, h3⟩ := List.nodup_append.1 hnd
  obtain ⟨-, -, h4⟩ := List.nodup_append.1 h2
  rcases hgm with hgm | hgm
  ·exact h3 g hgm g (List.mem_append_left _ hA) rfl
  ·exact h4 g hA g hgm rfl
 have hs : ∀ g, (g ∈ [] ∨ g ∈ (blk q.semA ++ (blk q.eventA ++ (blk q.boardA ++ (blk q.bufferA ++ (q.buffers.filterMap bufferN.kid ++ (blk q.portA ++ (q.ports.filterMap portN.kid)))))))) → w'.heap[g]? = w.heap[g]? := fun g hgm => hk.same g (h.lt g (by
  rw [hbs]
  rcases hgm with hgm | hgm
  ·exact List.mem_append_left _ hgm
  ·exact List.mem_append_right _ (List.mem_append_right _ hgm))).2 (hdis g hgm)
 refine ⟨⟨(by rw [hl]; exact ho), own_same h.sems fun g hgm => hs g (.inr (by simp [hgm])), own_same h.events fun g hgm => hs g (.inr (by simp [hgm])), own_same h.boards fun g hgm => hs g (.inr (by simp [hgm])), own_same h.buffers fun g hgm => hs g (.inr (by simp [hgm])), own_same h.ports fun g hgm => hs g (.inr (by simp [hgm])), hm, fun y hy => (h.mineF y hy).same fun g hk => hs g (.inr (by simp only [List.mem_append, List.mem_filterMap]; simp [exists_kid hy hk])), fun y hy => (h.mineQ y hy).same fun g hk => hs g (.inr (by simp only [List.mem_append, List.mem_filterMap]; simp [exists_kid hy hk])), ?_⟩, hbn⟩
 rw [hbn]
 exact h.nodup
/-- The list of the kind Sem is turned. -/
theorem PartOwn.turnSem {w w' : World} {base : Nat} {q : PartD} {l : List SemD} (h : PartOwn w base q) (ho : w'.ownsRow base 49 3 (.slice q.semA q.sems.length q.semC) q.sems.length (semK.flat l)) (hl : l.length = q.sems.length) (hk : KeptBut w w' (blk q.semA)) :
  PartOwn w' base ({ q with sems := l } : PartD) ∧ ({ q with sems := l } : PartD).blocks = q.blocks := by
 have hbs : q.blocks = (blk q.procA ++ q.procs.filterMap procN.kid) ++ ((blk q.semA) ++ (blk q.eventA ++ (blk q.boardA ++ (blk q.bufferA ++ (q.buffers.filterMap bufferN.kid ++ (blk q.portA ++ (q.ports.filterMap portN.kid))))))) := by simp [PartD.blocks, List.append_assoc]
 have hbn : ({ q with sems := l } : PartD).blocks = q.blocks := by rfl
 have hnd := h.nodup
 rw [hbs] at hnd
 have hdis : ∀ g, (g ∈ (blk q.procA ++ q.procs.filterMap procN.kid) ∨ g ∈ (blk q.eventA ++ (blk q.boardA ++ (blk q.bufferA ++ (q.buffers.filterMap bufferN.kid ++ (blk q.portA ++ (q.ports.filterMap portN.kid))))))) → g ∉ (blk q.semA) := fun g hgm hA => by
  obtain ⟨-, h2, h3⟩ := List.nodup_append.1 hnd
  obtain ⟨-, -, h4⟩ := List.nodup_append.1 h2
  rcases hgm with hgm | hgm
  ·exact h3 g hgm g (List.mem_append_left _ hA) rfl
  ·exact h4 g hA g hgm rfl
 have hs : ∀ g, (g ∈ (blk q.procA ++ q.procs.filterMap procN.kid) ∨ g ∈ (blk q.eventA ++ (blk q.boardA ++ (blk q.bufferA ++ (q.buffers.filterMap bufferN.kid ++ (blk q.portA ++ (q.ports.filterMap portN.kid))))))) → w'.heap[g]? = w.heap[g]? := fun g hgm => hk.same g (h.lt g (by
  rw [hbs]
  rcases hgm with hgm | hgm
  ·exact List.mem_append_left _ hgm
  ·exact List.mem_append_right _ (List.mem_append_right _ hgm))).2 (hdis g hgm)
 refine ⟨⟨own_same h.procs fun g hgm => hs g (.inl (by simp [hgm])), (by rw [hl]; exact ho), own_same h.events fun g hgm => hs g (.inr (by simp [hgm])), own_same h.boards fun g hgm => hs g (.inr (by simp [hgm])), own_same h.buffers fun g hgm => hs g (.inr (by simp [hgm])), own_same h.ports fun g hgm => hs g (.inr (by simp [hgm])), fun y hy => (h.mineP y hy).same fun g hk => hs g (.inl (by simp only [List.mem_append, List.mem_filterMap]; simp [exists_kid hy hk])), fun y hy => (h.mineF y hy).same fun g hk => hs g (.inr (by simp only [List.mem_append, List.mem_filterMap]; simp [exists_kid hy hk])), fun y hy => (h.mineQ y hy).same fun g hk => hs g (.inr (by simp only [List.mem_append, List.mem_filterMap]; simp [exists_kid hy hk])), ?_⟩, hbn⟩
 rw [hbn]
 exact h.nodup
/-- The list of the kind Event is turned. -/
theorem PartOwn.turnEvent {w w' : World} {base : Nat} {q : PartD} {l : List EventD} (h : PartOwn w base q) (ho : w'.ownsRow base 138 2 (.slice q.eventA q.events.length q.eventC) q.events.length (eventK.flat l)) (hl : l.length = q.events.length) (hk : KeptBut w w' (blk q.eventA)) :
  PartOwn w' base ({ q with events := l } : PartD) ∧ ({ q with events := l } : PartD).blocks = q.blocks := by
 have hbs : q.blocks = (blk q.procA ++ q.procs.filterMap procN.kid ++ blk q.semA) ++ ((blk q.eventA) ++ (blk q.boardA ++ (blk q.bufferA ++ (q.buffers.filterMap bufferN.kid ++ (blk q.portA ++ (q.ports.filterMap portN.kid)))))) := by simp [PartD.blocks, List.append_assoc]
 have hbn : ({ q with events := l } : PartD).blocks = q.blocks := by rfl
 have hnd := h.nodup
 rw [hbs] at hnd
 have hdis : ∀ g, (g ∈ (blk q.procA ++ q.procs.filterMap procN.kid ++ blk q.semA) ∨ g ∈ (blk q.boardA ++ (blk q.bufferA ++ (q.buffers.filterMap bufferN.kid ++ (blk q.portA ++ (q.ports.filterMap portN.kid)))))) → g ∉ (blk q.eventA) := fun g hgm hA => by
  obtain ⟨-, h2, h3⟩ := List.nodup_append.1 hnd
  obtain ⟨-, -, h4⟩ := List.nodup_append.1 h2
  rcases hgm with hgm | hgm
  ·exact h3 g hgm g (List.mem_append_left _ hA) rfl
  ·exact h4 g hA g hgm rfl
 have hs : ∀ g, (g ∈ (blk q.procA ++ q.procs.filterMap procN.kid ++ blk q.semA) ∨ g ∈ (blk q.boardA ++ (blk q.bufferA ++ (q.buffers.filterMap bufferN.kid ++ (blk q.portA ++ (q.ports.filterMap portN.kid)))))) → w'.heap[g]? = w.heap[g]? := fun g hgm => hk.same g (h.lt g (by
  rw [hbs]
  rcases hgm with hgm | hgm
  ·exact List.mem_append_left _ hgm
  ·exact List.mem_append_right _ (List.mem_append_right _ hgm))).2 (hdis g hgm)
 refine ⟨⟨own_same h.procs fun g hgm => hs g (.inl (by simp [hgm])), own_same h.sems fun g hgm => hs g (.inl (by simp [hgm])), (by rw [hl]; exact ho), own_same h.boards fun g hgm => hs g (.inr (by simp [hgm])), own_same h.buffers fun g hgm => hs g (.inr (by simp [hgm])), own_same h.ports fun g hgm => hs g (.inr (by simp [hgm])), fun y hy => (h.mineP y hy).same fun g hk => hs g (.inl (by simp only [List.mem_append, List.mem_filterMap]; simp [exists_kid hy hk])), fun y hy => (h.mineF y hy).same fun g hk => hs g (.inr (by simp only [List.mem_append, List.mem_filterMap]; simp [exists_kid hy hk])), fun y hy => (h.mineQ y hy).same fun g hk => hs g (.inr (by simp only [List.mem_append, List.mem_filterMap]; simp [exists_kid hy hk])), ?_⟩, hbn⟩
 rw [hbn]
 exact h.nodup
/-- The list of the kind Board is turned. -/
theorem PartOwn.turnBoard {w w' : World} {base : Nat} {q : PartD} {l : List BoardD} (h : PartOwn w base q) (ho : w'.ownsRow base 141 3 (.slice q.boardA q.boards.length q.boardC) q.boards.length (boardK.flat l)) (hl : l.length = q.boards.length) (hk : KeptBut w w' (blk q.boardA)) :
  PartOwn w' base ({ q with boards := l } : PartD) ∧ ({ q with boards := l } : PartD).blocks = q.blocks := by
 have hbs : q.blocks = (blk q.procA ++ q.procs.filterMap procN.kid ++ blk q.semA ++ blk q.eventA) ++ ((blk q.boardA) ++ (blk q.bufferA ++ (q.buffers.filterMap bufferN.kid ++ (blk q.portA ++ (q.ports.filterMap portN.kid))))) := by simp [PartD.blocks, List.append_assoc]
 have hbn : ({ q with boards := l } : PartD).blocks = q.blocks := by rfl
 have hnd := h.nodup
 rw [hbs] at hnd
 have hdis : ∀ g, (g ∈ (blk q.procA ++ q.procs.filterMap procN.kid ++ blk q.semA ++ blk q.eventA) ∨ g ∈ (blk q.bufferA ++ (q.buffers.filterMap bufferN.kid ++ (blk q.portA ++ (q.ports.filterMap portN.kid))))) → g ∉ (blk q.boardA) := fun g hgm hA => by
  obtain ⟨-, h2, h3⟩ := List.nodup_append.1 hnd
  obtain ⟨-, -, h4⟩ := List.nodup_append.1 h2
  rcases hgm with hgm | hgm
  ·exact h3 g hgm g (List.mem_append_left _ hA) rfl
  ·exact h4 g hA g hgm rfl
 have hs : ∀ g, (g ∈ (blk q.procA ++ q.procs.filterMap procN.kid ++ blk q.semA ++ blk q.eventA) ∨ g ∈ (blk q.bufferA ++ (q.buffers.filterMap bufferN.kid ++ (blk q.portA ++ (q.ports.filterMap portN.kid))))) → w'.heap[g]? = w.heap[g]? := fun g hgm => hk.same g (h.lt g (by
  rw [hbs]
  rcases hgm with hgm | hgm
  ·exact List.mem_append_left _ hgm
  ·exact List.mem_append_right _ (List.mem_append_right _ hgm))).2 (hdis g hgm)
 refine ⟨⟨own_same h.procs fun g hgm => hs g (.inl (by simp [hgm])), own_same h.sems fun g hgm => hs g (.inl (by simp [hgm])), own_same h.events fun g hgm => hs g (.inl (by simp [hgm])), (by rw [hl]; exact ho), own_same h.buffers fun g hgm => hs g (.inr (by simp [hgm])), own_same h.ports fun g hgm => hs g (.inr (by simp [hgm])), fun y hy => (h.mineP y hy).same fun g hk => hs g (.inl (by simp only [List.mem_append, List.mem_filterMap]; simp [exists_kid hy hk])), fun y hy => (h.mineF y hy).same fun g hk => hs g (.inr (by simp only [List.mem_append, List.mem_filterMap]; simp [exists_kid hy hk])), fun y hy => (h.mineQ y hy).same fun g hk => hs g (.inr (by simp only [List.mem_append, List.mem_filterMap]; simp [exists_kid hy hk])), ?_⟩, hbn⟩
 rw [hbn]
 exact h.nodup
/-- The list of the kind Buffer is turned. -/
theorem PartOwn.turnBuffer {w w' : World} {base : Nat} {q : PartD} {l : List BufferD} (h : PartOwn w base q) (ho : w'.ownsRow base 144 3 (.slice q.bufferA q.buffers.length q.bufferC) q.buffers.length (bufferK.flat l)) (hl : l.length = q.buffers.length) (hm : ∀ y ∈ l, bufferN.Mine w' base y) (hki : l.filterMap bufferN.kid = q.buffers.filterMap bufferN.kid) (hk : KeptBut w w' (blk q.bufferA ++ q.buffers.filterMap bufferN.kid)) :
  PartOwn w' base ({ q with buffers := l } : PartD) ∧ ({ q with buffers := l } : PartD).blocks = q.blocks := by
 have hbs : q.blocks = (blk q.procA ++ q.procs.filterMap procN.kid ++ blk q.semA ++ blk q.eventA ++ blk q.boardA) ++ ((blk q.bufferA ++ q.buffers.filterMap bufferN.kid) ++ (blk q.portA ++ (q.ports.filterMap portN.kid))) := by simp [PartD.blocks, List.append_assoc]
 have hbn : ({ q with buffers := l } : PartD).blocks = q.blocks := by simp only [PartD.blocks, hki]
 have hnd := h.nodup
 rw [hbs] at hnd
 have hdis : ∀ g, (g ∈ (blk q.procA ++ q.procs.filterMap procN.kid ++ blk q.semA ++ blk q.eventA ++ blk q.boardA) ∨ g ∈ (blk q.portA ++ (q.ports.filterMap portN.kid))) → g ∉ (blk q.bufferA ++ q.buffers.filterMap bufferN.kid) := fun g hgm hA => by
  obtain ⟨-, h2, h3⟩ := List.nodup_append.1 hnd
  obtain ⟨-, -, h4⟩ := List.nodup_append.1 h2
  rcases hgm with hgm | hgm
  ·exact h3 g hgm g (List.mem_append_left _ hA) rfl
  ·exact h4 g hA g hgm rfl
 have hs : ∀ g, (g ∈ (blk q.procA ++ q.procs.filterMap procN.kid ++ blk q.semA ++ blk q.eventA ++ blk q.boardA) ∨ g ∈ (blk q.portA ++ (q.ports.filterMap portN.kid))) → w'.heap[g]? = w.heap[g]? := fun g hgm => hk.same g (h.lt g (by
  rw [hbs]
  rcases hgm with hgm | hgm
  ·exact List.mem_append_left _ hgm
  ·exact List.mem_append_right _ (List.mem_append_right _ hgm))).2 (hdis g hgm)
 refine ⟨⟨own_same h.procs fun g hgm => hs g (.inl (by simp [hgm])), own_same h.sems fun g hgm => hs g (.inl (by simp [hgm])), own_same h.events fun g hgm => hs g (.inl (by simp [hgm])), own_same h.boards fun g hgm => hs g (.inl (by simp [hgm])), (by rw [hl]; exact ho), own_same h.ports fun g hgm => hs g (.inr (by simp [hgm])), fun y hy => (h.mineP y hy).same fun g hk => hs g (.inl (by simp only [List.mem_append, List.mem_filterMap]; simp [exists_kid hy hk])), hm, fun y hy => (h.mineQ y hy).same fun g hk => hs g (.inr (by simp only [List.mem_append, List.mem_filterMap]; simp [exists_kid hy hk])), ?_⟩, hbn⟩
 rw [hbn]
 exact h.nodup
/-- The list of the kind Port is turned. -/
theorem PartOwn.turnPort {w w' : World} {base : Nat} {q : PartD} {l : List PortD} (h : PartOwn w base q) (ho : w'.ownsRow base 61 5 (.slice q.portA q.ports.length q.portC) q.ports.length (portK.flat l)) (hl : l.length = q.ports.length) (hm : ∀ y ∈ l, portN.Mine w' base y) (hki : l.filterMap portN.kid = q.ports.filterMap portN.kid) (hk : KeptBut w w' (blk q.portA ++ q.ports.filterMap portN.kid)) :
  PartOwn w' base ({ q with ports := l } : PartD) ∧ ({ q with ports := l } : PartD).blocks = q.blocks := by
 have hbs : q.blocks = (blk q.procA ++ q.procs.filterMap procN.kid ++ blk q.semA ++ blk q.eventA ++ blk q.boardA ++ blk q.bufferA ++ q.buffers.filterMap bufferN.kid) ++ ((blk q.portA ++ q.ports.filterMap portN.kid) ++ []) := by simp [PartD.blocks, List.append_assoc]
 have hbn : ({ q with ports := l } : PartD).blocks = q.blocks := by simp only [PartD.blocks, hki]
 have hnd := h.nodup
 rw [hbs] at hnd
 have hdis : ∀ g, (g ∈ (blk q.procA ++ q.procs.filterMap procN.kid ++ blk q.semA ++ blk q.eventA ++ blk q.boardA ++ blk q.bufferA ++ q.buffers.filterMap bufferN.kid) ∨ g ∈ []) → g ∉ (blk q.portA ++ q.ports.filterMap portN.kid) := fun g hgm hA => by
  obtain ⟨-, h2, h3⟩ := List.nodup_append.1 hnd
  obtain ⟨-, -, h4⟩ := List.nodup_append.1 h2
  rcases hgm with hgm | hgm
  ·exact h3 g hgm g (List.mem_append_left _ hA) rfl
  ·exact h4 g hA g hgm rfl
 have hs : ∀ g, (g ∈ (blk q.procA ++ q.procs.filterMap procN.kid ++ blk q.semA ++ blk q.eventA ++ blk q.boardA ++ blk q.bufferA ++ q.buffers.filterMap bufferN.kid) ∨ g ∈ []) → w'.heap[g]? = w.heap[g]? := fun g hgm => hk.same g (h.lt g (by
  rw [hbs]
  rcases hgm with hgm | hgm
  ·exact List.mem_append_left _ hgm
  ·exact List.mem_append_right _ (List.mem_append_right _ hgm))).2 (hdis g hgm)
 refine ⟨⟨own_same h.procs fun g hgm => hs g (.inl (by simp [hgm])), own_same h.sems fun g hgm => hs g (.inl (by simp [hgm])), own_same h.events fun g hgm => hs g (.inl (by simp [hgm])), own_same h.boards fun g hgm => hs g (.inl (by simp [hgm])), own_same h.buffers fun g hgm => hs g (.inl (by simp [hgm])), (by rw [hl]; exact ho), fun y hy => (h.mineP y hy).same fun g hk => hs g (.inl (by simp only [List.mem_append, List.mem_filterMap]; simp [exists_kid hy hk])), fun y hy => (h.mineF y hy).same fun g hk => hs g (.inl (by simp only [List.mem_append, List.mem_filterMap]; simp [exists_kid hy hk])), hm, ?_⟩, hbn⟩
 rw [hbn]
 exact h.nodup
/-- How many marks a partition takes. -/
def cntPart (p : PartD) : Nat := cntL cProc p.procs + cntL (fun _ => 3) p.sems + cntL (fun _ => 2) p.events + cntL (fun _ => 3) p.boards + cntL cBuffer p.buffers + cntL cPort p.ports
def mkPart (k : Int) (p : PartD) : PartD := { p with procs := markL mkProc cProc (k) p.procs, sems := markL mkSem (fun _ => 3) (k + (cntL cProc p.procs : Nat)) p.sems, events := markL mkEvent (fun _ => 2) (k + (cntL cProc p.procs : Nat) + (cntL (fun _ => 3) p.sems : Nat)) p.events, boards := markL mkBoard (fun _ => 3) (k + (cntL cProc p.procs : Nat) + (cntL (fun _ => 3) p.sems : Nat) + (cntL (fun _ => 2) p.events : Nat)) p.boards, buffers := markL mkBuffer cBuffer (k + (cntL cProc p.procs : Nat) + (cntL (fun _ => 3) p.sems : Nat) + (cntL (fun _ => 2) p.events : Nat) + (cntL (fun _ => 3) p.boards : Nat)) p.buffers, ports := markL mkPort cPort (k + (cntL cProc p.procs : Nat) + (cntL (fun _ => 3) p.sems : Nat) + (cntL (fun _ => 2) p.events : Nat) + (cntL (fun _ => 3) p.boards : Nat) + (cntL cBuffer p.buffers : Nat)) p.ports }
/-- The lengths are such that a machine can count them. -/
structure PartD.Cnt (p : PartD) : Prop where
 nProc : p.procs.length ≤ 1048576
 nSem : p.sems.length ≤ 1048576
 nEvent : p.events.length ≤ 1048576
 nBoard : p.boards.length ≤ 1048576
 nBuffer : p.buffers.length ≤ 1048576
 nPort : p.ports.length ≤ 1048576
 procs : ∀ x ∈ p.procs, x.prog.length ≤ 1048576
 buffers : ∀ x ∈ p.buffers, x.items.length ≤ 1048576
 ports : ∀ x ∈ p.ports, x.items.length ≤ 1048576
set_option maxRecDepth 100000 in
set_option maxHeartbeats 4000000 in
theorem markPart_l (p : PartD) (k : Int) (w : World) (base : Nat) (hc : p.Cnt) (h0 : 1 ≤ k) (h1 : k + (cntPart p : Nat) ≤ 90000000) (ho : PartOwn w base p) :
  Calls Tryz.prog 64 #[.agg p.cells, .int .i64 k] w fun e w' => e = .returned (.int .i64 (k + (cntPart p : Nat))) ∧ PartOwn w' base (mkPart k p) ∧ KeptBut w w' p.blocks := by
 have HC : Hid (p.Cnt ∧ k + (cntPart p : Nat) ≤ 90000000) := ⟨hc, h1⟩
 have HX : Hid (PartBox (w.alloc (.cells #[.int .i64 p.id, .int .i64 p.next, .slice p.procA p.procs.length p.procC, .slice p.semA p.sems.length p.semC, .slice p.eventA p.events.length p.eventC, .slice p.boardA p.boards.length p.boardC, .slice p.bufferA p.buffers.length p.bufferC, .slice p.portA p.ports.length p.portC] 32)) w.heap.size p ∧ PartOwn (w.alloc (.cells #[.int .i64 p.id, .int .i64 p.next, .slice p.procA p.procs.length p.procC, .slice p.semA p.sems.length p.semC, .slice p.eventA p.events.length p.eventC, .slice p.boardA p.boards.length p.boardC, .slice p.bufferA p.buffers.length p.bufferC, .slice p.portA p.ports.length p.portC] 32)) base p ∧ KeptBut w (w.alloc (.cells #[.int .i64 p.id, .int .i64 p.next, .slice p.procA p.procs.length p.procC, .slice p.semA p.sems.length p.semC, .slice p.eventA p.events.length p.eventC, .slice p.boardA p.boards.length p.boardC, .slice p.bufferA p.buffers.length p.bufferC, .slice p.portA p.ports.length p.portC] 32)) p.blocks) := ⟨heap_alloc_new _ _, ho.below ((Below.refl _ _).alloc (Nat.le_refl _) _), KeptBut.of_below ((Below.refl _ _).alloc (Nat.le_refl _) _)⟩
 have HB : Hid (∀ g ∈ p.blocks, g < w.heap.size) := fun g hg => (ho.lt g hg).2
 have q0 : 1 ≤ k ∧ k + (cntL cProc p.procs : Nat) ≤ 90000000 := by have := h1; unfold cntPart at this; omega
 have q1 : 1 ≤ k + (cntL cProc p.procs : Nat) ∧ k + (cntL cProc p.procs : Nat) + (cntL (fun _ => 3) p.sems : Nat) ≤ 90000000 := by have := h1; unfold cntPart at this; omega
 have q2 : 1 ≤ k + (cntL cProc p.procs : Nat) + (cntL (fun _ => 3) p.sems : Nat) ∧ k + (cntL cProc p.procs : Nat) + (cntL (fun _ => 3) p.sems : Nat) + (cntL (fun _ => 2) p.events : Nat) ≤ 90000000 := by have := h1; unfold cntPart at this; omega
 have q3 : 1 ≤ k + (cntL cProc p.procs : Nat) + (cntL (fun _ => 3) p.sems : Nat) + (cntL (fun _ => 2) p.events : Nat) ∧ k + (cntL cProc p.procs : Nat) + (cntL (fun _ => 3) p.sems : Nat) + (cntL (fun _ => 2) p.events : Nat) + (cntL (fun _ => 3) p.boards : Nat) ≤ 90000000 := by have := h1; unfold cntPart at this; omega
 have q4 : 1 ≤ k + (cntL cProc p.procs : Nat) + (cntL (fun _ => 3) p.sems : Nat) + (cntL (fun _ => 2) p.events : Nat) + (cntL (fun _ => 3) p.boards : Nat) ∧ k + (cntL cProc p.procs : Nat) + (cntL (fun _ => 3) p.sems : Nat) + (cntL (fun _ => 2) p.events : Nat) + (cntL (fun _ => 3) p.boards : Nat) + (cntL cBuffer p.buffers : Nat) ≤ 90000000 := by have := h1; unfold cntPart at this; omega
 have q5 : 1 ≤ k + (cntL cProc p.procs : Nat) + (cntL (fun _ => 3) p.sems : Nat) + (cntL (fun _ => 2) p.events : Nat) + (cntL (fun _ => 3) p.boards : Nat) + (cntL cBuffer p.buffers : Nat) ∧ k + (cntL cProc p.procs : Nat) + (cntL (fun _ => 3) p.sems : Nat) + (cntL (fun _ => 2) p.events : Nat) + (cntL (fun _ => 3) p.boards : Nat) + (cntL cBuffer p.buffers : Nat) + (cntL cPort p.ports : Nat) ≤ 90000000 := by have := h1; unfold cntPart at this; omega
 clear hc h1 ho
 unfold PartD.cells
 go_enter Tryz.func64, Tryz.ntmps64
 go_wp2_with fail
 generalize w.alloc (.cells #[.int .i64 p.id, .int .i64 p.next, .slice p.procA p.procs.length p.procC, .slice p.semA p.sems.length p.semC, .slice p.eventA p.events.length p.eventC, .slice p.boardA p.boards.length p.boardC, .slice p.bufferA p.buffers.length p.bufferC, .slice p.portA p.ports.length p.portC] 32) = W0 at *
 refine (markSProc_l p.procA p.procs p.procC (k) W0 base HC.out.1.nProc HC.out.1.procs q0.1 q0.2 HX.out.2.1.procs HX.out.2.1.mineP (by
  have h5 := HX.out.2.1.nodup
  have h6 : PartD.blocks p = p.blocks := rfl
  rw [h6, show p.blocks = [] ++ ((blk p.procA ++ p.procs.filterMap procN.kid) ++ (blk p.semA ++ (blk p.eventA ++ (blk p.boardA ++ (blk p.bufferA ++ (p.buffers.filterMap bufferN.kid ++ (blk p.portA ++ (p.ports.filterMap portN.kid)))))))) by simp [PartD.blocks, List.append_assoc]] at h5
  exact (List.nodup_append.1 (List.nodup_append.1 h5).2.1).1)).mono ?_
 rintro e W1 ⟨rfl, how, hmi, hkb⟩
 have ht := HX.out.2.1.turnProc how (markL_length _ _ _ _) hmi (markL_kid (N := procN) (f := mkProc) (c := cProc) (fun _ _ => rfl) _ _) hkb
 have HQ1 : Hid (PartD.blocks ({ p with procs := markL mkProc cProc (k) p.procs } : PartD) = p.blocks) := ht.2.trans rfl
 have hsub : ∀ g ∈ blk p.procA ++ p.procs.filterMap procN.kid, g ∈ p.blocks := fun g hg => by rw [show p.blocks = [] ++ ((blk p.procA ++ p.procs.filterMap procN.kid) ++ (blk p.semA ++ (blk p.eventA ++ (blk p.boardA ++ (blk p.bufferA ++ (p.buffers.filterMap bufferN.kid ++ (blk p.portA ++ (p.ports.filterMap portN.kid)))))))) by simp [PartD.blocks, List.append_assoc]]; exact List.mem_append_right _ (List.mem_append_left _ hg)
 have hpb : w.heap.size ∉ p.blocks := fun hm => by have := HB.out _ hm; omega
 have HY : Hid (PartBox W1 w.heap.size p ∧ PartOwn W1 base ({ p with procs := markL mkProc cProc (k) p.procs } : PartD) ∧ KeptBut w W1 p.blocks) := ⟨(hkb.same _ (Array.getElem?_eq_some_iff.1 HX.out.1).1 fun hm => hpb (hsub _ hm)).trans HX.out.1, ht.1, HX.out.2.2.trans (hkb.mono hsub)⟩
 clear HX how hkb ht hsub hpb hmi
 have HX := HY
 clear HY
 have m0 : W1.cell? ⟨w.heap.size, 3, none⟩ = some (.slice p.semA p.sems.length p.semC) := by have := HX.out.1; unfold PartBox at this; simp [World.cell?, this]
 go_wp2_with fail
 clear m0
 refine (markSSem_l p.semA p.sems p.semC (k + (cntL cProc p.procs : Nat)) W1 base HC.out.1.nSem q1.1 q1.2 HX.out.2.1.sems).mono ?_
 rintro e W2 ⟨rfl, how, hkb⟩
 have ht := HX.out.2.1.turnSem how (markL_length _ _ _ _) hkb
 have HQ2 : Hid (PartD.blocks ({ p with procs := markL mkProc cProc (k) p.procs, sems := markL mkSem (fun _ => 3) (k + (cntL cProc p.procs : Nat)) p.sems } : PartD) = p.blocks) := ht.2.trans HQ1.out
 have hsub : ∀ g ∈ blk p.semA, g ∈ p.blocks := fun g hg => by rw [show p.blocks = (blk p.procA ++ p.procs.filterMap procN.kid) ++ ((blk p.semA) ++ (blk p.eventA ++ (blk p.boardA ++ (blk p.bufferA ++ (p.buffers.filterMap bufferN.kid ++ (blk p.portA ++ (p.ports.filterMap portN.kid))))))) by simp [PartD.blocks, List.append_assoc]]; exact List.mem_append_right _ (List.mem_append_left _ hg)
 have hpb : w.heap.size ∉ p.blocks := fun hm => by have := HB.out _ hm; omega
 have HY : Hid (PartBox W2 w.heap.size p ∧ PartOwn W2 base ({ p with procs := markL mkProc cProc (k) p.procs, sems := markL mkSem (fun _ => 3) (k + (cntL cProc p.procs : Nat)) p.sems } : PartD) ∧ KeptBut w W2 p.blocks) := ⟨(hkb.same _ (Array.getElem?_eq_some_iff.1 HX.out.1).1 fun hm => hpb (hsub _ hm)).trans HX.out.1, ht.1, HX.out.2.2.trans (hkb.mono hsub)⟩
 clear HX how hkb ht hsub hpb
 have HX := HY
 clear HY
 have m1 : W2.cell? ⟨w.heap.size, 4, none⟩ = some (.slice p.eventA p.events.length p.eventC) := by have := HX.out.1; unfold PartBox at this; simp [World.cell?, this]
 go_wp2_with fail
 clear m1
 refine (markSEvent_l p.eventA p.events p.eventC (k + (cntL cProc p.procs : Nat) + (cntL (fun _ => 3) p.sems : Nat)) W2 base HC.out.1.nEvent q2.1 q2.2 HX.out.2.1.events).mono ?_
 rintro e W3 ⟨rfl, how, hkb⟩
 have ht := HX.out.2.1.turnEvent how (markL_length _ _ _ _) hkb
 have HQ3 : Hid (PartD.blocks ({ p with procs := markL mkProc cProc (k) p.procs, sems := markL mkSem (fun _ => 3) (k + (cntL cProc p.procs : Nat)) p.sems, events := markL mkEvent (fun _ => 2) (k + (cntL cProc p.procs : Nat) + (cntL (fun _ => 3) p.sems : Nat)) p.events } : PartD) = p.blocks) := ht.2.trans HQ2.out
 have hsub : ∀ g ∈ blk p.eventA, g ∈ p.blocks := fun g hg => by rw [show p.blocks = (blk p.procA ++ p.procs.filterMap procN.kid ++ blk p.semA) ++ ((blk p.eventA) ++ (blk p.boardA ++ (blk p.bufferA ++ (p.buffers.filterMap bufferN.kid ++ (blk p.portA ++ (p.ports.filterMap portN.kid)))))) by simp [PartD.blocks, List.append_assoc]]; exact List.mem_append_right _ (List.mem_append_left _ hg)
 have hpb : w.heap.size ∉ p.blocks := fun hm => by have := HB.out _ hm; omega
 have HY : Hid (PartBox W3 w.heap.size p ∧ PartOwn W3 base ({ p with procs := markL mkProc cProc (k) p.procs, sems := markL mkSem (fun _ => 3) (k + (cntL cProc p.procs : Nat)) p.sems, events := markL mkEvent (fun _ => 2) (k + (cntL cProc p.procs : Nat) + (cntL (fun _ => 3) p.sems : Nat)) p.events } : PartD) ∧ KeptBut w W3 p.blocks) := ⟨(hkb.same _ (Array.getElem?_eq_some_iff.1 HX.out.1).1 fun hm => hpb (hsub _ hm)).trans HX.out.1, ht.1, HX.out.2.2.trans (hkb.mono hsub)⟩
 clear HX how hkb ht hsub hpb
 have HX := HY
 clear HY
 have m2 : W3.cell? ⟨w.heap.size, 5, none⟩ = some (.slice p.boardA p.boards.length p.boardC) := by have := HX.out.1; unfold PartBox at this; simp [World.cell?, this]
 go_wp2_with fail
 clear m2
 refine (markSBoard_l p.boardA p.boards p.boardC (k + (cntL cProc p.procs : Nat) + (cntL (fun _ => 3) p.sems : Nat) + (cntL (fun _ => 2) p.events : Nat)) W3 base HC.out.1.nBoard q3.1 q3.2 HX.out.2.1.boards).mono ?_
 rintro e W4 ⟨rfl, how, hkb⟩
 have ht := HX.out.2.1.turnBoard how (markL_length _ _ _ _) hkb
 have HQ4 : Hid (PartD.blocks ({ p with procs := markL mkProc cProc (k) p.procs, sems := markL mkSem (fun _ => 3) (k + (cntL cProc p.procs : Nat)) p.sems, events := markL mkEvent (fun _ => 2) (k + (cntL cProc p.procs : Nat) + (cntL (fun _ => 3) p.sems : Nat)) p.events, boards := markL mkBoard (fun _ => 3) (k + (cntL cProc p.procs : Nat) + (cntL (fun _ => 3) p.sems : Nat) + (cntL (fun _ => 2) p.events : Nat)) p.boards } : PartD) = p.blocks) := ht.2.trans HQ3.out
 have hsub : ∀ g ∈ blk p.boardA, g ∈ p.blocks := fun g hg => by rw [show p.blocks = (blk p.procA ++ p.procs.filterMap procN.kid ++ blk p.semA ++ blk p.eventA) ++ ((blk p.boardA) ++ (blk p.bufferA ++ (p.buffers.filterMap bufferN.kid ++ (blk p.portA ++ (p.ports.filterMap portN.kid))))) by simp [PartD.blocks, List.append_assoc]]; exact List.mem_append_right _ (List.mem_append_left _ hg)
 have hpb : w.heap.size ∉ p.blocks := fun hm => by have := HB.out _ hm; omega
 have HY : Hid (PartBox W4 w.heap.size p ∧ PartOwn W4 base ({ p with procs := markL mkProc cProc (k) p.procs, sems := markL mkSem (fun _ => 3) (k + (cntL cProc p.procs : Nat)) p.sems, events := markL mkEvent (fun _ => 2) (k + (cntL cProc p.procs : Nat) + (cntL (fun _ => 3) p.sems : Nat)) p.events, boards := markL mkBoard (fun _ => 3) (k + (cntL cProc p.procs : Nat) + (cntL (fun _ => 3) p.sems : Nat) + (cntL (fun _ => 2) p.events : Nat)) p.boards } : PartD) ∧ KeptBut w W4 p.blocks) := ⟨(hkb.same _ (Array.getElem?_eq_some_iff.1 HX.out.1).1 fun hm => hpb (hsub _ hm)).trans HX.out.1, ht.1, HX.out.2.2.trans (hkb.mono hsub)⟩
 clear HX how hkb ht hsub hpb
 have HX := HY
 clear HY
 have m3 : W4.cell? ⟨w.heap.size, 6, none⟩ = some (.slice p.bufferA p.buffers.length p.bufferC) := by have := HX.out.1; unfold PartBox at this; simp [World.cell?, this]
 go_wp2_with fail
 clear m3
 refine (markSBuffer_l p.bufferA p.buffers p.bufferC (k + (cntL cProc p.procs : Nat) + (cntL (fun _ => 3) p.sems : Nat) + (cntL (fun _ => 2) p.events : Nat) + (cntL (fun _ => 3) p.boards : Nat)) W4 base HC.out.1.nBuffer HC.out.1.buffers q4.1 q4.2 HX.out.2.1.buffers HX.out.2.1.mineF (by
  have h5 := HX.out.2.1.nodup
  have h6 : PartD.blocks ({ p with procs := markL mkProc cProc (k) p.procs, sems := markL mkSem (fun _ => 3) (k + (cntL cProc p.procs : Nat)) p.sems, events := markL mkEvent (fun _ => 2) (k + (cntL cProc p.procs : Nat) + (cntL (fun _ => 3) p.sems : Nat)) p.events, boards := markL mkBoard (fun _ => 3) (k + (cntL cProc p.procs : Nat) + (cntL (fun _ => 3) p.sems : Nat) + (cntL (fun _ => 2) p.events : Nat)) p.boards } : PartD) = p.blocks := HQ4.out
  rw [h6, show p.blocks = (blk p.procA ++ p.procs.filterMap procN.kid ++ blk p.semA ++ blk p.eventA ++ blk p.boardA) ++ ((blk p.bufferA ++ p.buffers.filterMap bufferN.kid) ++ (blk p.portA ++ (p.ports.filterMap portN.kid))) by simp [PartD.blocks, List.append_assoc]] at h5
  exact (List.nodup_append.1 (List.nodup_append.1 h5).2.1).1)).mono ?_
 rintro e W5 ⟨rfl, how, hmi, hkb⟩
 have ht := HX.out.2.1.turnBuffer how (markL_length _ _ _ _) hmi (markL_kid (N := bufferN) (f := mkBuffer) (c := cBuffer) (fun _ _ => rfl) _ _) hkb
 have HQ5 : Hid (PartD.blocks ({ p with procs := markL mkProc cProc (k) p.procs, sems := markL mkSem (fun _ => 3) (k + (cntL cProc p.procs : Nat)) p.sems, events := markL mkEvent (fun _ => 2) (k + (cntL cProc p.procs : Nat) + (cntL (fun _ => 3) p.sems : Nat)) p.events, boards := markL mkBoard (fun _ => 3) (k + (cntL cProc p.procs : Nat) + (cntL (fun _ => 3) p.sems : Nat) + (cntL (fun _ => 2) p.events : Nat)) p.boards, buffers := markL mkBuffer cBuffer (k + (cntL cProc p.procs : Nat) + (cntL (fun _ => 3) p.sems : Nat) + (cntL (fun _ => 2) p.events : Nat) + (cntL (fun _ => 3) p.boards : Nat)) p.buffers } : PartD) = p.blocks) := ht.2.trans HQ4.out
 have hsub : ∀ g ∈ blk p.bufferA ++ p.buffers.filterMap bufferN.kid, g ∈ p.blocks := fun g hg => by rw [show p.blocks = (blk p.procA ++ p.procs.filterMap procN.kid ++ blk p.semA ++ blk p.eventA ++ blk p.boardA) ++ ((blk p.bufferA ++ p.buffers.filterMap bufferN.kid) ++ (blk p.portA ++ (p.ports.filterMap portN.kid))) by simp [PartD.blocks, List.append_assoc]]; exact List.mem_append_right _ (List.mem_append_left _ hg)
 have hpb : w.heap.size ∉ p.blocks := fun hm => by have := HB.out _ hm; omega
 have HY : Hid (PartBox W5 w.heap.size p ∧ PartOwn W5 base ({ p with procs := markL mkProc cProc (k) p.procs, sems := markL mkSem (fun _ => 3) (k + (cntL cProc p.procs : Nat)) p.sems, events := markL mkEvent (fun _ => 2) (k + (cntL cProc p.procs : Nat) + (cntL (fun _ => 3) p.sems : Nat)) p.events, boards := markL mkBoard (fun _ => 3) (k + (cntL cProc p.procs : Nat) + (cntL (fun _ => 3) p.sems : Nat) + (cntL (fun _ => 2) p.events : Nat)) p.boards, buffers := markL mkBuffer cBuffer (k + (cntL cProc p.procs : Nat) + (cntL (fun _ => 3) p.sems : Nat) + (cntL (fun _ => 2) p.events : Nat) + (cntL (fun _ => 3) p.boards : Nat)) p.buffers } : PartD) ∧ KeptBut w W5 p.blocks) := ⟨(hkb.same _ (Array.getElem?_eq_some_iff.1 HX.out.1).1 fun hm => hpb (hsub _ hm)).trans HX.out.1, ht.1, HX.out.2.2.trans (hkb.mono hsub)⟩
 clear HX how hkb ht hsub hpb hmi
 have HX := HY
 clear HY
 have m4 : W5.cell? ⟨w.heap.size, 7, none⟩ = some (.slice p.portA p.ports.length p.portC) := by have := HX.out.1; unfold PartBox at this; simp [World.cell?, this]
 go_wp2_with fail
 clear m4
 refine (markSPort_l p.portA p.ports p.portC (k + (cntL cProc p.procs : Nat) + (cntL (fun _ => 3) p.sems : Nat) + (cntL (fun _ => 2) p.events : Nat) + (cntL (fun _ => 3) p.boards : Nat) + (cntL cBuffer p.buffers : Nat)) W5 base HC.out.1.nPort HC.out.1.ports q5.1 q5.2 HX.out.2.1.ports HX.out.2.1.mineQ (by
  have h5 := HX.out.2.1.nodup
  have h6 : PartD.blocks ({ p with procs := markL mkProc cProc (k) p.procs, sems := markL mkSem (fun _ => 3) (k + (cntL cProc p.procs : Nat)) p.sems, events := markL mkEvent (fun _ => 2) (k + (cntL cProc p.procs : Nat) + (cntL (fun _ => 3) p.sems : Nat)) p.events, boards := markL mkBoard (fun _ => 3) (k + (cntL cProc p.procs : Nat) + (cntL (fun _ => 3) p.sems : Nat) + (cntL (fun _ => 2) p.events : Nat)) p.boards, buffers := markL mkBuffer cBuffer (k + (cntL cProc p.procs : Nat) + (cntL (fun _ => 3) p.sems : Nat) + (cntL (fun _ => 2) p.events : Nat) + (cntL (fun _ => 3) p.boards : Nat)) p.buffers } : PartD) = p.blocks := HQ5.out
  rw [h6, show p.blocks = (blk p.procA ++ p.procs.filterMap procN.kid ++ blk p.semA ++ blk p.eventA ++ blk p.boardA ++ blk p.bufferA ++ p.buffers.filterMap bufferN.kid) ++ ((blk p.portA ++ p.ports.filterMap portN.kid) ++ []) by simp [PartD.blocks, List.append_assoc]] at h5
  exact (List.nodup_append.1 (List.nodup_append.1 h5).2.1).1)).mono ?_
 rintro e W6 ⟨rfl, how, hmi, hkb⟩
 have ht := HX.out.2.1.turnPort how (markL_length _ _ _ _) hmi (markL_kid (N := portN) (f := mkPort) (c := cPort) (fun _ _ => rfl) _ _) hkb
 have HQ6 : Hid (PartD.blocks ({ p with procs := markL mkProc cProc (k) p.procs, sems := markL mkSem (fun _ => 3) (k + (cntL cProc p.procs : Nat)) p.sems, events := markL mkEvent (fun _ => 2) (k + (cntL cProc p.procs : Nat) + (cntL (fun _ => 3) p.sems : Nat)) p.events, boards := markL mkBoard (fun _ => 3) (k + (cntL cProc p.procs : Nat) + (cntL (fun _ => 3) p.sems : Nat) + (cntL (fun _ => 2) p.events : Nat)) p.boards, buffers := markL mkBuffer cBuffer (k + (cntL cProc p.procs : Nat) + (cntL (fun _ => 3) p.sems : Nat) + (cntL (fun _ => 2) p.events : Nat) + (cntL (fun _ => 3) p.boards : Nat)) p.buffers, ports := markL mkPort cPort (k + (cntL cProc p.procs : Nat) + (cntL (fun _ => 3) p.sems : Nat) + (cntL (fun _ => 2) p.events : Nat) + (cntL (fun _ => 3) p.boards : Nat) + (cntL cBuffer p.buffers : Nat)) p.ports } : PartD) = p.blocks) := ht.2.trans HQ5.out
 have hsub : ∀ g ∈ blk p.portA ++ p.ports.filterMap portN.kid, g ∈ p.blocks := fun g hg => by rw [show p.blocks = (blk p.procA ++ p.procs.filterMap procN.kid ++ blk p.semA ++ blk p.eventA ++ blk p.boardA ++ blk p.bufferA ++ p.buffers.filterMap bufferN.kid) ++ ((blk p.portA ++ p.ports.filterMap portN.kid) ++ []) by simp [PartD.blocks, List.append_assoc]]; exact List.mem_append_right _ (List.mem_append_left _ hg)
 have hpb : w.heap.size ∉ p.blocks := fun hm => by have := HB.out _ hm; omega
 have HY : Hid (PartBox W6 w.heap.size p ∧ PartOwn W6 base ({ p with procs := markL mkProc cProc (k) p.procs, sems := markL mkSem (fun _ => 3) (k + (cntL cProc p.procs : Nat)) p.sems, events := markL mkEvent (fun _ => 2) (k + (cntL cProc p.procs : Nat) + (cntL (fun _ => 3) p.sems : Nat)) p.events, boards := markL mkBoard (fun _ => 3) (k + (cntL cProc p.procs : Nat) + (cntL (fun _ => 3) p.sems : Nat) + (cntL (fun _ => 2) p.events : Nat)) p.boards, buffers := markL mkBuffer cBuffer (k + (cntL cProc p.procs : Nat) + (cntL (fun _ => 3) p.sems : Nat) + (cntL (fun _ => 2) p.events : Nat) + (cntL (fun _ => 3) p.boards : Nat)) p.buffers, ports := markL mkPort cPort (k + (cntL cProc p.procs : Nat) + (cntL (fun _ => 3) p.sems : Nat) + (cntL (fun _ => 2) p.events : Nat) + (cntL (fun _ => 3) p.boards : Nat) + (cntL cBuffer p.buffers : Nat)) p.ports } : PartD) ∧ KeptBut w W6 p.blocks) := ⟨(hkb.same _ (Array.getElem?_eq_some_iff.1 HX.out.1).1 fun hm => hpb (hsub _ hm)).trans HX.out.1, ht.1, HX.out.2.2.trans (hkb.mono hsub)⟩
 clear HX how hkb ht hsub hpb hmi
 have HX := HY
 clear HY
 go_wp2
 go_ret
 exact ⟨ret_int (by unfold cntPart; omega), HX.out.2.1, HX.out.2.2⟩

set_option maxRecDepth 100000 in
set_option maxHeartbeats 4000000 in
theorem heldPart_l (p : PartD) (k : Int) (w : World) (hc : p.Cnt) (h0 : 1 ≤ k) (h1 : k + (cntPart p : Nat) ≤ 90000000) (ho : PartD.At w (mkPart k p)) :
  Calls Tryz.prog 66 #[.agg p.cells, .int .i64 k] w fun e w' => e = .returned (.int .i64 (k + (cntPart p : Nat))) ∧ Below w.heap.size w w' := by
 have HC : Hid (p.Cnt ∧ k + (cntPart p : Nat) ≤ 90000000) := ⟨hc, h1⟩
 have HX : Hid (PartBox (w.alloc (.cells #[.int .i64 p.id, .int .i64 p.next, .slice p.procA p.procs.length p.procC, .slice p.semA p.sems.length p.semC, .slice p.eventA p.events.length p.eventC, .slice p.boardA p.boards.length p.boardC, .slice p.bufferA p.buffers.length p.bufferC, .slice p.portA p.ports.length p.portC] 32)) w.heap.size p ∧ PartD.At (w.alloc (.cells #[.int .i64 p.id, .int .i64 p.next, .slice p.procA p.procs.length p.procC, .slice p.semA p.sems.length p.semC, .slice p.eventA p.events.length p.eventC, .slice p.boardA p.boards.length p.boardC, .slice p.bufferA p.buffers.length p.bufferC, .slice p.portA p.ports.length p.portC] 32)) (mkPart k p) ∧ Below w.heap.size w (w.alloc (.cells #[.int .i64 p.id, .int .i64 p.next, .slice p.procA p.procs.length p.procC, .slice p.semA p.sems.length p.semC, .slice p.eventA p.events.length p.eventC, .slice p.boardA p.boards.length p.boardC, .slice p.bufferA p.buffers.length p.bufferC, .slice p.portA p.ports.length p.portC] 32))) := ⟨heap_alloc_new _ _, ho.below ((Below.refl _ _).alloc (Nat.le_refl _) _), (Below.refl _ _).alloc (Nat.le_refl _) _⟩
 have q0 : 1 ≤ k ∧ k + (cntL cProc p.procs : Nat) ≤ 90000000 := by have := h1; unfold cntPart at this; omega
 have q1 : 1 ≤ k + (cntL cProc p.procs : Nat) ∧ k + (cntL cProc p.procs : Nat) + (cntL (fun _ => 3) p.sems : Nat) ≤ 90000000 := by have := h1; unfold cntPart at this; omega
 have q2 : 1 ≤ k + (cntL cProc p.procs : Nat) + (cntL (fun _ => 3) p.sems : Nat) ∧ k + (cntL cProc p.procs : Nat) + (cntL (fun _ => 3) p.sems : Nat) + (cntL (fun _ => 2) p.events : Nat) ≤ 90000000 := by have := h1; unfold cntPart at this; omega
 have q3 : 1 ≤ k + (cntL cProc p.procs : Nat) + (cntL (fun _ => 3) p.sems : Nat) + (cntL (fun _ => 2) p.events : Nat) ∧ k + (cntL cProc p.procs : Nat) + (cntL (fun _ => 3) p.sems : Nat) + (cntL (fun _ => 2) p.events : Nat) + (cntL (fun _ => 3) p.boards : Nat) ≤ 90000000 := by have := h1; unfold cntPart at this; omega
 have q4 : 1 ≤ k + (cntL cProc p.procs : Nat) + (cntL (fun _ => 3) p.sems : Nat) + (cntL (fun _ => 2) p.events : Nat) + (cntL (fun _ => 3) p.boards : Nat) ∧ k + (cntL cProc p.procs : Nat) + (cntL (fun _ => 3) p.sems : Nat) + (cntL (fun _ => 2) p.events : Nat) + (cntL (fun _ => 3) p.boards : Nat) + (cntL cBuffer p.buffers : Nat) ≤ 90000000 := by have := h1; unfold cntPart at this; omega
 have q5 : 1 ≤ k + (cntL cProc p.procs : Nat) + (cntL (fun _ => 3) p.sems : Nat) + (cntL (fun _ => 2) p.events : Nat) + (cntL (fun _ => 3) p.boards : Nat) + (cntL cBuffer p.buffers : Nat) ∧ k + (cntL cProc p.procs : Nat) + (cntL (fun _ => 3) p.sems : Nat) + (cntL (fun _ => 2) p.events : Nat) + (cntL (fun _ => 3) p.boards : Nat) + (cntL cBuffer p.buffers : Nat) + (cntL cPort p.ports : Nat) ≤ 90000000 := by have := h1; unfold cntPart at this; omega
 clear hc h1 ho
 unfold PartD.cells
 go_enter Tryz.func66, Tryz.ntmps66
 go_wp2_with fail
 generalize w.alloc (.cells #[.int .i64 p.id, .int .i64 p.next, .slice p.procA p.procs.length p.procC, .slice p.semA p.sems.length p.semC, .slice p.eventA p.events.length p.eventC, .slice p.boardA p.boards.length p.boardC, .slice p.bufferA p.buffers.length p.bufferC, .slice p.portA p.ports.length p.portC] 32) = W0 at *
 refine (heldSProc_l p.procA p.procs p.procC (k) W0 HC.out.1.nProc HC.out.1.procs q0.1 q0.2 HX.out.2.1.1).mono ?_
 rintro e W1 ⟨rfl, hb⟩
 have HY : Hid (PartBox W1 w.heap.size p ∧ PartD.At W1 (mkPart k p) ∧ Below w.heap.size w W1) := ⟨HX.out.1.below hb, HX.out.2.1.below hb, HX.out.2.2.trans (hb.mono HX.out.2.2.size)⟩
 clear HX hb
 have HX := HY
 clear HY
 have nn0 : ¬ k + (cntL cProc p.procs : Nat) < 0 := by omega
 have m0 : W1.cell? ⟨w.heap.size, 3, none⟩ = some (.slice p.semA p.sems.length p.semC) := by have := HX.out.1; unfold PartBox at this; simp [World.cell?, this]
 go_wp2_with fail
 clear m0
 refine (heldSSem_l p.semA p.sems p.semC (k + (cntL cProc p.procs : Nat)) W1 HC.out.1.nSem q1.1 q1.2 HX.out.2.1.2.1).mono ?_
 rintro e W2 ⟨rfl, hb⟩
 have HY : Hid (PartBox W2 w.heap.size p ∧ PartD.At W2 (mkPart k p) ∧ Below w.heap.size w W2) := ⟨HX.out.1.below hb, HX.out.2.1.below hb, HX.out.2.2.trans (hb.mono HX.out.2.2.size)⟩
 clear HX hb
 have HX := HY
 clear HY
 have nn1 : ¬ k + (cntL cProc p.procs : Nat) + (cntL (fun _ => 3) p.sems : Nat) < 0 := by omega
 have m1 : W2.cell? ⟨w.heap.size, 4, none⟩ = some (.slice p.eventA p.events.length p.eventC) := by have := HX.out.1; unfold PartBox at this; simp [World.cell?, this]
 go_wp2_with fail
 clear m1
 refine (heldSEvent_l p.eventA p.events p.eventC (k + (cntL cProc p.procs : Nat) + (cntL (fun _ => 3) p.sems : Nat)) W2 HC.out.1.nEvent q2.1 q2.2 HX.out.2.1.2.2.1).mono ?_
 rintro e W3 ⟨rfl, hb⟩
 have HY : Hid (PartBox W3 w.heap.size p ∧ PartD.At W3 (mkPart k p) ∧ Below w.heap.size w W3) := ⟨HX.out.1.below hb, HX.out.2.1.below hb, HX.out.2.2.trans (hb.mono HX.out.2.2.size)⟩
 clear HX hb
 have HX := HY
 clear HY
 have nn2 : ¬ k + (cntL cProc p.procs : Nat) + (cntL (fun _ => 3) p.sems : Nat) + (cntL (fun _ => 2) p.events : Nat) < 0 := by omega
 have m2 : W3.cell? ⟨w.heap.size, 5, none⟩ = some (.slice p.boardA p.boards.length p.boardC) := by have := HX.out.1; unfold PartBox at this; simp [World.cell?, this]
 go_wp2_with fail
 clear m2
 refine (heldSBoard_l p.boardA p.boards p.boardC (k + (cntL cProc p.procs : Nat) + (cntL (fun _ => 3) p.sems : Nat) + (cntL (fun _ => 2) p.events : Nat)) W3 HC.out.1.nBoard q3.1 q3.2 HX.out.2.1.2.2.2.1).mono ?_
 rintro e W4 ⟨rfl, hb⟩
 have HY : Hid (PartBox W4 w.heap.size p ∧ PartD.At W4 (mkPart k p) ∧ Below w.heap.size w W4) := ⟨HX.out.1.below hb, HX.out.2.1.below hb, HX.out.2.2.trans (hb.mono HX.out.2.2.size)⟩
 clear HX hb
 have HX := HY
 clear HY
 have nn3 : ¬ k + (cntL cProc p.procs : Nat) + (cntL (fun _ => 3) p.sems : Nat) + (cntL (fun _ => 2) p.events : Nat) + (cntL (fun _ => 3) p.boards : Nat) < 0 := by omega
 have m3 : W4.cell? ⟨w.heap.size, 6, none⟩ = some (.slice p.bufferA p.buffers.length p.bufferC) := by have := HX.out.1; unfold PartBox at this; simp [World.cell?, this]
 go_wp2_with fail
 clear m3
 refine (heldSBuffer_l p.bufferA p.buffers p.bufferC (k + (cntL cProc p.procs : Nat) + (cntL (fun _ => 3) p.sems : Nat) + (cntL (fun _ => 2) p.events : Nat) + (cntL (fun _ => 3) p.boards : Nat)) W4 HC.out.1.nBuffer HC.out.1.buffers q4.1 q4.2 HX.out.2.1.2.2.2.2.1).mono ?_
 rintro e W5 ⟨rfl, hb⟩
 have HY : Hid (PartBox W5 w.heap.size p ∧ PartD.At W5 (mkPart k p) ∧ Below w.heap.size w W5) := ⟨HX.out.1.below hb, HX.out.2.1.below hb, HX.out.2.2.trans (hb.mono HX.out.2.2.size)⟩
 clear HX hb
 have HX := HY
 clear HY
 have nn4 : ¬ k + (cntL cProc p.procs : Nat) + (cntL (fun _ => 3) p.sems : Nat) + (cntL (fun _ => 2) p.events : Nat) + (cntL (fun _ => 3) p.boards : Nat) + (cntL cBuffer p.buffers : Nat) < 0 := by omega
 have m4 : W5.cell? ⟨w.heap.size, 7, none⟩ = some (.slice p.portA p.ports.length p.portC) := by have := HX.out.1; unfold PartBox at this; simp [World.cell?, this]
 go_wp2_with fail
 clear m4
 refine (heldSPort_l p.portA p.ports p.portC (k + (cntL cProc p.procs : Nat) + (cntL (fun _ => 3) p.sems : Nat) + (cntL (fun _ => 2) p.events : Nat) + (cntL (fun _ => 3) p.boards : Nat) + (cntL cBuffer p.buffers : Nat)) W5 HC.out.1.nPort HC.out.1.ports q5.1 q5.2 HX.out.2.1.2.2.2.2.2).mono ?_
 rintro e W6 ⟨rfl, hb⟩
 have HY : Hid (PartBox W6 w.heap.size p ∧ PartD.At W6 (mkPart k p) ∧ Below w.heap.size w W6) := ⟨HX.out.1.below hb, HX.out.2.1.below hb, HX.out.2.2.trans (hb.mono HX.out.2.2.size)⟩
 clear HX hb
 have HX := HY
 clear HY
 have nn5 : ¬ k + (cntL cProc p.procs : Nat) + (cntL (fun _ => 3) p.sems : Nat) + (cntL (fun _ => 2) p.events : Nat) + (cntL (fun _ => 3) p.boards : Nat) + (cntL cBuffer p.buffers : Nat) + (cntL cPort p.ports : Nat) < 0 := by omega
 go_wp2
 go_ret
 exact ⟨ret_int (by unfold cntPart; omega), HX.out.2.2⟩

set_option maxHeartbeats 4000000 in
theorem markProc_l (x : ProcD) (k : Int) (w : World) (base : Nat) (hl : x.prog.length ≤ 1048576) (h0 : 1 ≤ k) (h1 : k + (cntL (fun _ : OpD => 4) x.prog : Nat) ≤ 90000000) (ho : procN.Mine w base x) :
  Calls Tryz.prog 74 #[.agg (procVs x), .int .i64 k] w fun e w' => e = .returned (.int .i64 (k + (cntL (fun _ : OpD => 4) x.prog : Nat))) ∧ w'.ownsRow base 134 4 (.slice x.progA x.prog.length x.progC) x.prog.length (opK.flat (markL mkOp (fun _ => 4) k x.prog)) ∧ KeptBut w w' (blk x.progA) := by
 have HX : Hid ((w.alloc (.cells #[.int .i64 x.id, .int .i64 x.prio, .slice x.progA x.prog.length x.progC, .int .i64 x.state, .int .i64 x.pc, .int .i64 x.left, .int .i64 x.wake, .int .i64 x.on, .string x.held, .string x.got, .int .i64 x.code, .int .i64 x.since] 43)).ownsRow base 134 4 (.slice x.progA x.prog.length x.progC) x.prog.length (opK.flat x.prog) ∧ KeptBut w (w.alloc (.cells #[.int .i64 x.id, .int .i64 x.prio, .slice x.progA x.prog.length x.progC, .int .i64 x.state, .int .i64 x.pc, .int .i64 x.left, .int .i64 x.wake, .int .i64 x.on, .string x.held, .string x.got, .int .i64 x.code, .int .i64 x.since] 43)) (blk x.progA)) := ⟨ho.same fun g hk => ((Below.refl _ _).alloc (Nat.le_refl _) _).block g (ho.lt hk).2, KeptBut.of_below ((Below.refl _ _).alloc (Nat.le_refl _) _)⟩
 clear ho
 unfold procVs
 go_enter Tryz.func74, Tryz.ntmps74
 go_wp2_with fail
 generalize w.alloc (.cells #[.int .i64 x.id, .int .i64 x.prio, .slice x.progA x.prog.length x.progC, .int .i64 x.state, .int .i64 x.pc, .int .i64 x.left, .int .i64 x.wake, .int .i64 x.on, .string x.held, .string x.got, .int .i64 x.code, .int .i64 x.since] 43) = W0 at *
 refine (markSOp_l x.progA x.prog x.progC k W0 base hl h0 h1 HX.out.1).mono ?_
 rintro e W1 ⟨rfl, how, hkb⟩
 have HY : Hid (W1.ownsRow base 134 4 (.slice x.progA x.prog.length x.progC) x.prog.length (opK.flat (markL mkOp (fun _ => 4) k x.prog)) ∧ KeptBut w W1 (blk x.progA)) := ⟨how, HX.out.2.trans hkb⟩
 clear how hkb
 go_wp2
 go_ret
 exact ⟨rfl, HY.out.1, HY.out.2⟩

set_option maxHeartbeats 4000000 in
theorem heldProc_l (x : ProcD) (k : Int) (w : World) (hl : x.prog.length ≤ 1048576) (h0 : 1 ≤ k) (h1 : k + (cntL (fun _ : OpD => 4) x.prog : Nat) ≤ 90000000) (ho : Row w x.progA (opK.flat (markL mkOp (fun _ => 4) k x.prog))) :
  Calls Tryz.prog 75 #[.agg (procVs x), .int .i64 k] w fun e w' => e = .returned (.int .i64 (k + (cntL (fun _ : OpD => 4) x.prog : Nat))) ∧ Below w.heap.size w w' := by
 have HX : Hid (opK.Lies (w.alloc (.cells #[.int .i64 x.id, .int .i64 x.prio, .slice x.progA x.prog.length x.progC, .int .i64 x.state, .int .i64 x.pc, .int .i64 x.left, .int .i64 x.wake, .int .i64 x.on, .string x.held, .string x.got, .int .i64 x.code, .int .i64 x.since] 43)) x.progA (markL mkOp (fun _ => 4) k x.prog) ∧ Below w.heap.size w (w.alloc (.cells #[.int .i64 x.id, .int .i64 x.prio, .slice x.progA x.prog.length x.progC, .int .i64 x.state, .int .i64 x.pc, .int .i64 x.left, .int .i64 x.wake, .int .i64 x.on, .string x.held, .string x.got, .int .i64 x.code, .int .i64 x.since] 43))) := ⟨⟨ho.below ((Below.refl _ _).alloc (Nat.le_refl _) _), fun _ _ r hr => by cases hr⟩, (Below.refl _ _).alloc (Nat.le_refl _) _⟩
 clear ho
 have nn : ¬ k + (cntL (fun _ : OpD => 4) x.prog : Nat) < 0 := by omega
 unfold procVs
 go_enter Tryz.func75, Tryz.ntmps75
 go_wp2_with fail
 generalize w.alloc (.cells #[.int .i64 x.id, .int .i64 x.prio, .slice x.progA x.prog.length x.progC, .int .i64 x.state, .int .i64 x.pc, .int .i64 x.left, .int .i64 x.wake, .int .i64 x.on, .string x.held, .string x.got, .int .i64 x.code, .int .i64 x.since] 43) = W0 at *
 refine (heldSOp_l x.progA x.prog x.progC k W0 hl h0 h1 HX.out.1).mono ?_
 rintro e W1 ⟨rfl, hb⟩
 have HY : Hid (Below w.heap.size w W1) := HX.out.2.trans (hb.mono HX.out.2.size)
 clear hb
 go_wp2
 go_ret
 exact ⟨rfl, HY.out⟩

end Go.Proofs.YtkbcplnlehdjfaaGreat

/- The small functions of the ops' exact laws: an op's measure, and its copy. -/
namespace Go.Proofs.YtkbcplnlehdjfaaGreat
open Go.RowKit

set_option maxHeartbeats 1000000 in
theorem szOp_any (k n m : Int) (s : ByteArray) (left : Int) (w : World) (hl : s.size ≤ maxLen) (h0 : 0 ≤ left) (h1 : left ≤ 1048576) :
  Calls Tryz.prog 125 #[.agg #[.int .i64 k, .int .i64 n, .int .i64 m, .string s], .int .i64 left] w fun e w' => e = .returned (.int .i64 (szOf left s.size)) ∧ Below w.heap.size w w' := by
 unfold maxLen at hl
 by_cases h : left < s.size
 ·have h' : left - (s.size : Int) < 0 := by omega
  go_enter Tryz.func125, Tryz.ntmps125
  go_wp2
  go_ret
  exact ⟨ret_int (szOf_neg h).symm, by go_grown⟩
 ·have h' : ¬ left - (s.size : Int) < 0 := by omega
  go_enter Tryz.func125, Tryz.ntmps125
  go_wp2
  go_ret
  exact ⟨ret_int (szOf_pos (by omega)).symm, by go_grown⟩

set_option maxHeartbeats 1000000 in
theorem toOp_any (k n m : Int) (s : ByteArray) (w : World) :
  Calls Tryz.prog 126 #[.agg #[.int .i64 k, .int .i64 n, .int .i64 m, .string s]] w fun e w' => e = .returned (.agg #[.int .i64 k, .int .i64 n, .int .i64 m, .string s]) ∧ Below w.heap.size w w' := by
 go_enter Tryz.func126, Tryz.ntmps126
 go_wp2
 exact bodyPost_ret (v := .agg #[.int .i64 k, .int .i64 n, .int .i64 m, .string s]) (by simp [results, Tryz.results126, go_sem]) rfl ⟨rfl, by go_grown⟩

set_option maxHeartbeats 1000000 in
theorem eqOp_same (k n m : Int) (s : ByteArray) (w : World) :
  Calls Tryz.prog 127 #[.agg #[.int .i64 k, .int .i64 n, .int .i64 m, .string s], .agg #[.int .i64 k, .int .i64 n, .int .i64 m, .string s]] w fun e w' => e = .returned (.bool true) ∧ Below w.heap.size w w' := by
 go_enter Tryz.func127, Tryz.ntmps127
 go_wp2
 go_ret
 exact ⟨ret_bool (by simp), by go_grown⟩

end Go.Proofs.YtkbcplnlehdjfaaGreat

/- The laws' functions on things of the kind Op: measured, copied, held against each other. (Made by mklw.py.) -/
namespace Go.Proofs.YtkbcplnlehdjfaaGreat
open Go.RowKit
attribute [local go_sem ↓] Go.wp_at_zero Go.wp_at_succ

def OpsShort (l : List OpD) : Prop := l.length ≤ 1048576 ∧ ∀ x ∈ l, x.2.2.2.size ≤ 1048576
set_option maxHeartbeats 2000000 in
theorem szSOp_l (a : Option Addr) (l : List OpD) (cap : Nat) (left : Int) (w : World) (hl : l.length ≤ maxLen) (hc : opK.Came w a l) (hs : ∀ x ∈ l, (x.2.2.2.size ≤ maxLen)) (h0 : 0 ≤ left) (h1 : left ≤ 1048576) :
  Calls Tryz.prog 61 #[.slice a l.length cap, .int .i64 left] w fun e w' => SzEnds w left (l.length) (OpsShort l) e w' := by
 have hl' := hl
 unfold maxLen at hl'
 by_cases hn : left - (l.length : Int) < 0
 ·go_enter Tryz.func61, Tryz.ntmps61
  go_wp2
  go_ret
  exact szEnds_no (Below.refl _ _) h0
 have HC : Hid (opK.Came w a l ∧ ∀ x ∈ l, (x.2.2.2.size ≤ maxLen)) := ⟨hc, hs⟩
 clear hc hs hl
 go_enter Tryz.func61, Tryz.ntmps61
 go_wp2_with fail
 go_loopw [1, 5] (fun q i wr => ∃ (k : Nat) (r : Int), k ≤ l.length ∧ i = .int .i64 k ∧ q = .int .i64 r ∧ 0 ≤ r ∧ r ≤ left - (l.length : Int) ∧ Hid ((∀ x ∈ l.take k, (x.2.2.2.size ≤ 1048576)) ∧ Below w.heap.size w wr)) (fun _ i _ => l.length - (intOf i).toNat)
 case atStart => exact ⟨0, left - (l.length : Int), Nat.zero_le _, rfl, rfl, by omega, by omega, ⟨by simp, Below.refl _ _⟩⟩
 case round =>
  obtain ⟨k, r, hk, rfl, rfl, r0, r1, HA⟩ := hrel
  by_cases hlt : k < l.length
  ·have i0 : (0 : Int) ≤ (k : Int) := by omega
   have i1 : (k : Int) < (l.length : Int) := by omega
   obtain ⟨x, hx⟩ : ∃ x, l[k]? = some x := ⟨_, List.getElem?_eq_getElem hlt⟩
   have hmem := List.mem_of_getElem? hx
   obtain ⟨b, off, rfl, hat⟩ := (HC.out.1.below HA.out.2).at hx
   have c0 : wr.cell? ⟨b, off + k * 4, none⟩ = some (.int .i64 x.1) := hat 0 _ rfl
   have c1 : wr.cell? ⟨b, off + k * 4 + 1, none⟩ = some (.int .i64 x.2.1) := hat 1 _ rfl
   have c2 : wr.cell? ⟨b, off + k * 4 + 2, none⟩ = some (.int .i64 x.2.2.1) := hat 2 _ rfl
   have c3 : wr.cell? ⟨b, off + k * 4 + 3, none⟩ = some (.string x.2.2.2) := hat 3 _ rfl
   have HX : Hid (l[k]? = some x ∧ (x.2.2.2.size ≤ maxLen)) := ⟨hx, HC.out.2 x hmem⟩
   clear hx hmem hat
   go_wp2_with fail
   refine (szOp_any x.1 x.2.1 x.2.2.1 x.2.2.2 r wr HX.out.2 r0 (by omega)).mono ?_
   rintro e w1 ⟨rfl, hb1⟩
   have HB1 : Hid (Below w.heap.size w w1) := HA.out.2.trans (hb1.mono HA.out.2.size)
   clear hb1 c0 c1 c2 c3
   by_cases hsz : r < x.2.2.2.size
   ·rw [szOf_neg hsz]
    go_wp2
    go_ret
    exact szEnds_no HB1.out h0
   rw [szOf_pos (by omega)]
   have hnn : ¬ r - (x.2.2.2.size : Int) < 0 := by omega
   go_wp2
   go_roundw
   case rel => exact ⟨k + 1, r - x.2.2.2.size, by omega, by go_num, rfl, by omega, by omega, ⟨all_up HX.out.1 HA.out.1 (by omega), HB1.out⟩⟩
   case measure => simp [intOf]; omega
  ·have i1 : ¬ (k : Int) < (l.length : Int) := by omega
   go_wp2
   go_ret
   exact ⟨r, rfl, by omega, by omega, fun _ => ⟨(show OpsShort l from ⟨by omega, all_end (by omega) HA.out.1⟩), by omega⟩, HA.out.2⟩


theorem infoOp : (Tryz.prog.info? 134).map (fun i => (i.zero, i.size, decide (i.bytes ≤ 1000))) = some (some (.agg #[.int .i64 0, .int .i64 0, .int .i64 0, .string ⟨#[]⟩]), 4, true) := by kernel_rfl
theorem makeOp (n : Nat) (hn : n ≤ 1048576) (w : World) :
  (Instr.makeSlice 37 (.int .i64 (n : Int)) (.int .i64 (n : Int))).run Tryz.prog w = .ok (.slice (some ⟨w.heap.size, 0, none⟩) n n) (w.alloc (.cells (madeCells #[.int .i64 0, .int .i64 0, .int .i64 0, .string ⟨#[]⟩] (n * 4)) 134)) := by
 obtain ⟨i, hi, e⟩ := Option.map_eq_some_iff.1 infoOp
 simp only [Prod.mk.injEq, decide_eq_true_eq] at e
 obtain ⟨e1, e2, e3⟩ := e
 have hby : n * i.bytes ≤ 1048576 * 1000 := Nat.mul_le_mul hn e3
 have := run_make (P := Tryz.prog) w 37 134 i _ Tryz.underlying37 hi e1 .i64 .i64 n n (by omega) (by omega) (by rw [Nat.mul_comm] at hby; first | omega | (rw [Nat.mul_comm]; omega)) (by omega)
 rw [this, e2]
 simp [Value.cells]

set_option maxRecDepth 100000 in
set_option maxHeartbeats 4000000 in
theorem toSOp_l (a : Option Addr) (l : List OpD) (cap : Nat) (w : World) (hl : l.length ≤ 1048576) (hc : opK.Came w a l) :
  Calls Tryz.prog 62 #[.slice a l.length cap] w fun e w' => e = .returned (.slice (some ⟨w.heap.size, 0, none⟩) l.length l.length) ∧ w'.ownsRow w.heap.size 134 4 (.slice (some ⟨w.heap.size, 0, none⟩) l.length l.length) l.length (opK.flat l) ∧ Below w.heap.size w w' := by
 have hmk := makeOp l.length hl
 have HC : Hid (opK.Came w a l) := hc
 have HF : Hid (Fill opK 134 w (w.alloc (.cells (madeCells #[.int .i64 0, .int .i64 0, .int .i64 0, .string ⟨#[]⟩] (l.length * 4)) 134)) l.length []) := Fill.start (by rw [size_madeCells]; rfl)
 clear hc
 go_enter Tryz.func62, Tryz.ntmps62
 go_wp2_with fail
 go_loopw [4] (fun i wr => ∃ k : Nat, k ≤ l.length ∧ i = .int .i64 k ∧ Hid (Fill opK 134 w wr l.length (l.take k))) (fun i _ => l.length - (intOf i).toNat)
 case atStart => exact ⟨0, Nat.zero_le _, rfl, HF.out⟩
 case round =>
  clear hmk HF
  obtain ⟨k, hk, rfl, HR⟩ := hrel
  by_cases hlt : k < l.length
  ·have i0 : (0 : Int) ≤ (k : Int) := by omega
   have i1 : (k : Int) < (l.length : Int) := by omega
   obtain ⟨x, hx⟩ : ∃ x, l[k]? = some x := ⟨_, List.getElem?_eq_getElem hlt⟩
   obtain ⟨b, off, rfl, hat⟩ := (HC.out.below HR.out.bel).at hx
   have c0 : wr.cell? ⟨b, off + k * 4, none⟩ = some (.int .i64 x.1) := hat 0 _ rfl
   have c1 : wr.cell? ⟨b, off + k * 4 + 1, none⟩ = some (.int .i64 x.2.1) := hat 1 _ rfl
   have c2 : wr.cell? ⟨b, off + k * 4 + 2, none⟩ = some (.int .i64 x.2.2.1) := hat 2 _ rfl
   have c3 : wr.cell? ⟨b, off + k * 4 + 3, none⟩ = some (.string x.2.2.2) := hat 3 _ rfl
   have HX : Hid (l[k]? = some x) := hx
   have hfl := HR.out.lt
   clear hx hat
   go_wp2_with fail
   refine (toOp_any x.1 x.2.1 x.2.2.1 x.2.2.2 wr).mono ?_
   rintro e w1 ⟨rfl, hb1⟩
   have HR1 : Hid (Fill opK 134 w w1 l.length (l.take k)) := HR.out.below hb1
   obtain ⟨⟨u, hu⟩, hf⟩ := HR1.out.at
   have d0 := hu (k * 4) (by show k * 4 < l.length * 4; omega)
   have f0 := hf (k * 4)
   have d1 := hu (k * 4 + 1) (by show k * 4 + 1 < l.length * 4; omega)
   have f1 := hf (k * 4 + 1)
   have d2 := hu (k * 4 + 2) (by show k * 4 + 2 < l.length * 4; omega)
   have f2 := hf (k * 4 + 2)
   have d3 := hu (k * 4 + 3) (by show k * 4 + 3 < l.length * 4; omega)
   have f3 := hf (k * 4 + 3)
   have HS : Hid (Fill opK 134 w ((((w1.setCell ⟨w.heap.size, k * 4, none⟩ (.int .i64 x.1)).setCell ⟨w.heap.size, k * 4 + 1, none⟩ (.int .i64 x.2.1)).setCell ⟨w.heap.size, k * 4 + 2, none⟩ (.int .i64 x.2.2.1)).setCell ⟨w.heap.size, k * 4 + 3, none⟩ (.string x.2.2.2)) l.length (l.take (k + 1))) := by
    have h5 := HR1.out.more (by rw [List.length_take]; omega) x
    rw [← take_up HX.out, List.length_take, Nat.min_eq_left hk, show opK.vals x = [.int .i64 x.1, .int .i64 x.2.1, .int .i64 x.2.2.1, .string x.2.2.2] from rfl, show opK.n = 4 from rfl] at h5
    simp only [setAllW, Nat.add_assoc, Nat.reduceAdd] at h5
    exact h5
   clear hu hf hb1 HR HR1 c0 c1 c2 c3
   go_wp2
   go_roundw
   case rel => exact ⟨k + 1, by omega, by go_num, HS.out⟩
   case measure => simp [intOf]; omega
  ·have i1 : ¬ (k : Int) < (l.length : Int) := by omega
   have ek : k = l.length := by omega
   subst ek
   go_wp2
   go_ret
   have h6 := HR.out.done (by rw [List.length_take]; omega) (by unfold maxLen; omega)
   rw [List.take_length] at h6
   exact ⟨rfl, h6, HR.out.bel⟩

def EqSOp (w : World) (a a' : Option Addr) (l : List OpD) (x : OpD) (g g' k : Nat) (w' : World) : Prop := ((w'.cell? ⟨g, k * 4, none⟩ = some (.int .i64 x.1) ∧ w'.cell? ⟨g, k * 4 + 1, none⟩ = some (.int .i64 x.2.1) ∧ w'.cell? ⟨g, k * 4 + 2, none⟩ = some (.int .i64 x.2.2.1) ∧ w'.cell? ⟨g, k * 4 + 3, none⟩ = some (.string x.2.2.2)) ∧ (w'.cell? ⟨g', k * 4, none⟩ = some (.int .i64 x.1) ∧ w'.cell? ⟨g', k * 4 + 1, none⟩ = some (.int .i64 x.2.1) ∧ w'.cell? ⟨g', k * 4 + 2, none⟩ = some (.int .i64 x.2.2.1) ∧ w'.cell? ⟨g', k * 4 + 3, none⟩ = some (.string x.2.2.2))) ∧ Hid (opK.Lies w' a l ∧ opK.Lies w' a' l ∧ Below w.heap.size w w')
theorem eqSOp_of {w w' : World} {a a' : Option Addr} {l : List OpD} {x : OpD} {g g' k : Nat} (ha : a = some ⟨g, 0, none⟩) (ha' : a' = some ⟨g', 0, none⟩) (hx : l[k]? = some x) (h : opK.Lies w' a l ∧ opK.Lies w' a' l ∧ Below w.heap.size w w') : EqSOp w a a' l x g g' k w' := by
 obtain ⟨g1, e1, h1⟩ := h.1.at hx
 obtain ⟨g2, e2, h2⟩ := h.2.1.at hx
 rw [ha] at e1
 rw [ha'] at e2
 cases e1
 cases e2
 exact ⟨⟨⟨h1 0 _ rfl, h1 1 _ rfl, h1 2 _ rfl, h1 3 _ rfl⟩, ⟨h2 0 _ rfl, h2 1 _ rfl, h2 2 _ rfl, h2 3 _ rfl⟩⟩, h⟩
set_option maxRecDepth 100000 in
set_option maxHeartbeats 4000000 in
theorem eqSOp_l (a a' : Option Addr) (l : List OpD) (cap cap' : Nat) (w : World) (hl : l.length ≤ 1048576) (h : opK.Lies w a l) (h' : opK.Lies w a' l) :
  Calls Tryz.prog 63 #[.slice a l.length cap, .slice a' l.length cap'] w fun e w' => e = .returned (.bool true) ∧ Below w.heap.size w w' := by
 have HL : Hid (opK.Lies w a l ∧ opK.Lies w a' l) := ⟨h, h'⟩
 clear h h'
 go_enter Tryz.func63, Tryz.ntmps63
 go_wp2_with fail
 go_loopw [5] (fun i wr => ∃ k : Nat, k ≤ l.length ∧ i = .int .i64 k ∧ Hid (Below w.heap.size w wr)) (fun i _ => l.length - (intOf i).toNat)
 case atStart => exact ⟨0, Nat.zero_le _, rfl, Below.refl _ _⟩
 case round =>
  obtain ⟨k, hk, rfl, HB⟩ := hrel
  by_cases hlt : k < l.length
  ·have i0 : (0 : Int) ≤ (k : Int) := by omega
   have i1 : (k : Int) < (l.length : Int) := by omega
   obtain ⟨x, hx⟩ : ∃ x, l[k]? = some x := ⟨_, List.getElem?_eq_getElem hlt⟩
   obtain ⟨g, ha, -⟩ := HL.out.1.at hx
   obtain ⟨g', ha', -⟩ := HL.out.2.at hx
   have HX : Hid (a = some ⟨g, 0, none⟩ ∧ a' = some ⟨g', 0, none⟩ ∧ l[k]? = some x) := ⟨ha, ha', hx⟩
   have HS : Hid (EqSOp w a a' l x g g' k wr) := eqSOp_of ha ha' hx ⟨HL.out.1.below HB.out, HL.out.2.below HB.out, HB.out⟩
   clear hx
   rw [ha, ha']
   clear ha ha'
   go_wp2_with fail
   refine tame_region (EqSOp w a a' l x g g' k) (by kernel_rfl) (eqSOp_of HX.out.1 HX.out.2.1 HX.out.2.2 ⟨HS.out.2.out.1.below (Below.refl _ _).drew, HS.out.2.out.2.1.below (Below.refl _ _).drew, HS.out.2.out.2.2.drew⟩) ?_
   iterate 8 (refine yl (v := ?_) ?_ ?_; rotate_left; (intro w0 hS0; obtain ⟨⟨⟨q0, q1, q2, q3⟩, ⟨r0, r1, r2, r3⟩⟩, hH⟩ := hS0; go_simp; try with_reducible rfl); simp only [pt, sb, s0, s1])
   refine cl (.bool true) 127 #[.agg #[.int .i64 x.1, .int .i64 x.2.1, .int .i64 x.2.2.1, .string x.2.2.2], .agg #[.int .i64 x.1, .int .i64 x.2.1, .int .i64 x.2.2.1, .string x.2.2.2]] ?_ ?_ ?_
   ·intro w0 hS0
    obtain ⟨⟨⟨q0, q1, q2, q3⟩, ⟨r0, r1, r2, r3⟩⟩, hH⟩ := hS0
    go_simp
    try with_reducible rfl
   ·intro w0 hS0
    refine (eqOp_same x.1 x.2.1 x.2.2.1 x.2.2.2 w0).mono ?_
    rintro e w2 ⟨rfl, hb2⟩
    exact ⟨rfl, eqSOp_of HX.out.1 HX.out.2.1 HX.out.2.2 ⟨hS0.2.out.1.below hb2, hS0.2.out.2.1.below hb2, hS0.2.out.2.2.trans (hb2.mono hS0.2.out.2.2.size)⟩⟩
   simp only [pt, sb, s0, s1]
   (refine yl (v := ?_) ?_ ?_; rotate_left; (intro w0 hS0; obtain ⟨⟨⟨q0, q1, q2, q3⟩, ⟨r0, r1, r2, r3⟩⟩, hH⟩ := hS0; go_simp; try with_reducible rfl); simp only [pt, sb, s0, s1])
   refine tame_done (by kernel_rfl) ?_ _
   intro w1 hS1
   have HZ : Hid (Below w.heap.size w w1) := hS1.2.out.2.2
   clear hS1
   go_wp2
   go_roundw
   case rel => exact ⟨k + 1, by omega, by go_num, HZ.out⟩
   case measure => simp [intOf]; omega
  ·have i1 : ¬ (k : Int) < (l.length : Int) := by omega
   go_wp2
   go_ret
   exact ⟨rfl, HB.out⟩

end Go.Proofs.YtkbcplnlehdjfaaGreat

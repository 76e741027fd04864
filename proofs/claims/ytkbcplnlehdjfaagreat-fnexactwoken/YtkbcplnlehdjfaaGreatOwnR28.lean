/- What the proof leans on, part 28: MkEvent, TdB. -/
import Derived.Test.YtkbcplnlehdjfaaGreatOwnR1
import Derived.Test.YtkbcplnlehdjfaaGreatOwnR24
import Derived.Test.YtkbcplnlehdjfaaGreatOwnR25

namespace Go.Proofs.YtkbcplnlehdjfaaGreat
open Go.RowKit
attribute [local go_sem ↓] Go.wp_at_zero Go.wp_at_succ
/-- The mark of a thing. -/
def mkEvent (k : Int) (_ : EventD) : EventD := ⟨k, (k + 1) % 3 == 0⟩
set_option maxRecDepth 100000 in
set_option maxHeartbeats 4000000 in
theorem markSEvent_l (a : Option Addr) (l : List EventD) (cap : Nat) (k : Int) (w : World) (base : Nat) (hl : l.length ≤ 1048576) (h0 : 1 ≤ k) (h1 : k + (cntL (fun _ => 2) l : Nat) ≤ 90000000) (ho : w.ownsRow base 138 2 (.slice a l.length cap) l.length (eventK.flat l)) :
  Calls Tryz.prog 130 #[.slice a l.length cap, .int .i64 k] w fun e w' => e = .returned (.int .i64 (k + (cntL (fun _ => 2) l : Nat))) ∧ w'.ownsRow base 138 2 (.slice a l.length cap) l.length (eventK.flat (markL mkEvent (fun _ => 2) k l)) ∧ KeptBut w w' (blk a) := by
 by_cases hz : l.length = 0
 ·have hl0 : l = [] := List.eq_nil_of_length_eq_zero hz
  subst hl0
  have HO : Hid (w.ownsRow base 138 2 (.slice a 0 cap) 0 (eventK.flat [])) := ho
  clear ho
  go_enter Tryz.func130, Tryz.ntmps130
  go_wp2_with fail
  go_loopw [1, 5] (fun q i wr => q = .int .i64 k ∧ i = .int .i64 0 ∧ wr = w) (fun _ _ _ => 0)
  case atStart => exact ⟨rfl, rfl, rfl⟩
  case round =>
   obtain ⟨rfl, rfl, rfl⟩ := hrel
   go_wp2
   go_ret
   exact ⟨ret_int (by simp [cntL]), HO.out, KeptBut.refl _ _⟩
 obtain ⟨g, rfl, hrow⟩ := RowAt.of_owns (K := eventK) ho hz
 have HR : Hid (RowAt eventK 138 w base g cap l) := hrow
 have HB : Hid (k + (cntL (fun _ : EventD => 2) l : Nat) ≤ 90000000) := h1
 clear ho hrow h1 hz
 go_enter Tryz.func130, Tryz.ntmps130
 go_wp2_with fail
 go_loopw [1, 5] (fun q i wr => ∃ (j : Nat) (m : Int), j ≤ l.length ∧ i = .int .i64 j ∧ q = .int .i64 m ∧ 1 ≤ m ∧ m ≤ 90000000 ∧ Hid (m = k + (cntL (fun _ : EventD => 2) (l.take j) : Nat) ∧ RowAt eventK 138 wr base g cap (markL mkEvent (fun _ => 2) k (l.take j) ++ l.drop j) ∧ KeptBut w wr [g])) (fun _ i _ => l.length - (intOf i).toNat)
 case atStart => exact ⟨0, k, Nat.zero_le _, rfl, rfl, h0, by have := HB.out; omega, ⟨by simp [cntL], HR.out, KeptBut.refl _ _⟩⟩
 case round =>
  clear HR
  obtain ⟨j, m, hj, rfl, rfl, m0, m1, HA⟩ := hrel
  by_cases hlt : j < l.length
  ·have i0 : (0 : Int) ≤ (j : Int) := by omega
   have i1 : (j : Int) < (l.length : Int) := by omega
   obtain ⟨x, hx⟩ : ∃ x, l[j]? = some x := ⟨_, List.getElem?_eq_getElem hlt⟩
   have hdr : l.drop j = x :: l.drop (j + 1) := drop_at hx
   have hcn := cntL_take_lt (c := fun _ : EventD => 2) hx
   have hup := cntL_up (c := fun _ : EventD => 2) hx
   have HX : Hid (l[j]? = some x ∧ m + 2 ≤ 90000000 ∧ m + 2 = k + (cntL (fun _ : EventD => 2) (l.take (j + 1)) : Nat)) := ⟨hx, by have := HB.out; have := HA.out.1; omega, by have := HA.out.1; omega⟩
   have HW : Hid (RowAt eventK 138 wr base g cap (markL mkEvent (fun _ => 2) k (l.take j) ++ x :: l.drop (j + 1)) ∧ (markL mkEvent (fun _ => 2) k (l.take j)).length = j) := ⟨by have := HA.out.2.1; rwa [hdr] at this, by rw [markL_length, List.length_take]; omega⟩
   clear hx hdr hcn hup
   have m2 : m + 2 ≤ 90000000 := HX.out.2.1
   have hgl : g < wr.heap.size := HW.out.1.lt
   have q0 := RowAt.at_mid HW.out.1 HW.out.2 (r := 0) (by decide : 0 < eventK.n)
   obtain ⟨⟨u0, c0⟩, f0⟩ : (∃ u, wr.cell? ⟨g, j * 2, none⟩ = some u) ∧ wr.frozen? ⟨g, j * 2, none⟩ = false := q0
   have q1 := RowAt.at_mid HW.out.1 HW.out.2 (r := 1) (by decide : 1 < eventK.n)
   obtain ⟨⟨u1, c1⟩, f1⟩ : (∃ u, wr.cell? ⟨g, j * 2 + 1, none⟩ = some u) ∧ wr.frozen? ⟨g, j * 2 + 1, none⟩ = false := q1
   have h5 := RowAt.part (K := eventK) (x := (⟨x.id, x.up⟩ : EventD)) (y := (⟨m, (m + 1) % 3 == 0⟩ : EventD)) (j := 0) (vs := [.int .i64 (m), .bool ((m + 1) % 3 == 0)]) HW.out.1 (by show 0 + 2 ≤ 2; omega) (fun r hr => by match r, hr with | 0, _ => rfl | 1, _ => rfl) (fun r hr hn => by match r, hr, hn with | 0, _, hn => exact absurd ⟨by omega, by show 0 < 0 + 2; omega⟩ hn | 1, _, hn => exact absurd ⟨by omega, by show 1 < 0 + 2; omega⟩ hn )
   rw [HW.out.2, show eventK.n = 2 from rfl] at h5
   simp only [setAllW, Nat.add_zero] at h5
   have HS0 : Hid (RowAt eventK 138 ((wr.setCell ⟨g, j * 2, none⟩ (.int .i64 (m))).setCell ⟨g, j * 2 + 1, none⟩ (.bool ((m + 1) % 3 == 0))) base g cap (markL mkEvent (fun _ => 2) k (l.take j) ++ (⟨m, (m + 1) % 3 == 0⟩ : EventD) :: l.drop (j + 1)) ∧ (markL mkEvent (fun _ => 2) k (l.take j)).length = j) := ⟨h5, HW.out.2⟩
   have h6 : KeptBut w (setAllW wr g (j * 2) [.int .i64 (m), .bool ((m + 1) % 3 == 0)]) [g] := HA.out.2.2.trans (KeptBut.set _ (by simp))
   simp only [setAllW] at h6
   have HS0K : Hid (KeptBut w ((wr.setCell ⟨g, j * 2, none⟩ (.int .i64 (m))).setCell ⟨g, j * 2 + 1, none⟩ (.bool ((m + 1) % 3 == 0))) [g]) := h6
   clear h6
   clear h5
   have HN : Hid (RowAt eventK 138 ((wr.setCell ⟨g, j * 2, none⟩ (.int .i64 (m))).setCell ⟨g, j * 2 + 1, none⟩ (.bool ((m + 1) % 3 == 0))) base g cap (markL mkEvent (fun _ => 2) k (l.take (j + 1)) ++ l.drop (j + 1)) ∧ KeptBut w ((wr.setCell ⟨g, j * 2, none⟩ (.int .i64 (m))).setCell ⟨g, j * 2 + 1, none⟩ (.bool ((m + 1) % 3 == 0))) [g]) := ⟨by rw [markL_up HX.out.1, List.append_assoc, ← HA.out.1]; exact HS0.out.1, HS0K.out⟩
   go_wp2
   go_roundw
   case rel => exact ⟨j + 1, m + 2, by omega, by go_num, by go_num, by omega, by omega, ⟨HX.out.2.2, HN.out.1, HN.out.2⟩⟩
   case measure => simp [intOf]; omega
  ·have i1 : ¬ (j : Int) < (l.length : Int) := by omega
   have ej : j = l.length := by omega
   subst ej
   have HE : Hid (RowAt eventK 138 wr base g cap (markL mkEvent (fun _ => 2) k l) ∧ m = k + (cntL (fun _ : EventD => 2) l : Nat)) := by have h5 := HA.out.2.1; have h6 := HA.out.1; rw [List.take_length, List.drop_length, List.append_nil] at h5; rw [List.take_length] at h6; exact ⟨h5, h6⟩
   go_wp2
   go_ret
   refine ⟨ret_int HE.out.2, ?_, HA.out.2.2.mono (by simp [blk])⟩
   have h7 := HE.out.1.owns
   rw [markL_length] at h7
   exact h7
set_option maxRecDepth 100000 in
set_option maxHeartbeats 4000000 in
theorem heldSEvent_l (a : Option Addr) (l : List EventD) (cap : Nat) (k : Int) (w : World) (hl : l.length ≤ 1048576) (h0 : 1 ≤ k) (h1 : k + (cntL (fun _ => 2) l : Nat) ≤ 90000000) (hr : eventK.Lies w a (markL mkEvent (fun _ => 2) k l)) :
  Calls Tryz.prog 137 #[.slice a l.length cap, .int .i64 k] w fun e w' => e = .returned (.int .i64 (k + (cntL (fun _ => 2) l : Nat))) ∧ Below w.heap.size w w' := by
 have HR : Hid (eventK.Lies w a (markL mkEvent (fun _ => 2) k l) ∧ k + (cntL (fun _ : EventD => 2) l : Nat) ≤ 90000000) := ⟨hr, h1⟩
 clear hr h1
 go_enter Tryz.func137, Tryz.ntmps137
 go_wp2_with fail
 go_loopw [1, 5] (fun q i wr => ∃ (j : Nat) (m : Int), j ≤ l.length ∧ i = .int .i64 j ∧ q = .int .i64 m ∧ 1 ≤ m ∧ m ≤ 90000000 ∧ Hid (m = k + (cntL (fun _ : EventD => 2) (l.take j) : Nat) ∧ Below w.heap.size w wr)) (fun _ i _ => l.length - (intOf i).toNat)
 case atStart => exact ⟨0, k, Nat.zero_le _, rfl, rfl, h0, by have := HR.out.2; omega, ⟨by simp [cntL], Below.refl _ _⟩⟩
 case round =>
  obtain ⟨j, m, hj, rfl, rfl, m0, m1, HA⟩ := hrel
  by_cases hlt : j < l.length
  ·have i0 : (0 : Int) ≤ (j : Int) := by omega
   have i1 : (j : Int) < (l.length : Int) := by omega
   obtain ⟨x, hx⟩ : ∃ x, l[j]? = some x := ⟨_, List.getElem?_eq_getElem hlt⟩
   have hcn := cntL_take_lt (c := fun _ : EventD => 2) hx
   have hup := cntL_up (c := fun _ : EventD => 2) hx
   have hg := markL_get (f := mkEvent) (c := fun _ : EventD => 2) (k := k) hx
   rw [← HA.out.1] at hg
   obtain ⟨g, ha, hat⟩ := (HR.out.1.below HA.out.2).at hg
   have c0 : wr.cell? ⟨g, j * 2, none⟩ = some (.int .i64 (m)) := hat 0 _ rfl
   have c1 : wr.cell? ⟨g, j * 2 + 1, none⟩ = some (.bool ((m + 1) % 3 == 0)) := hat 1 _ rfl
   have HX : Hid (m + 2 ≤ 90000000 ∧ m + 2 = k + (cntL (fun _ : EventD => 2) (l.take (j + 1)) : Nat) ∧ a = some ⟨g, 0, none⟩ ∧ (markL mkEvent (fun _ => 2) k l)[j]? = some (mkEvent m x)) := ⟨by have := HR.out.2; have := HA.out.1; omega, by have := HA.out.1; omega, ha, hg⟩
   have m2 : m + 2 ≤ 90000000 := HX.out.1
   subst ha
   clear hx hcn hup hg hat
   go_wp2
   go_roundw
   case rel => exact ⟨j + 1, m + 2, by omega, by go_num, by go_num, by omega, by omega, ⟨HX.out.2.1, HA.out.2⟩⟩
   case measure => simp [intOf]; omega
  ·have i1 : ¬ (j : Int) < (l.length : Int) := by omega
   have HE : Hid (m = k + (cntL (fun _ : EventD => 2) l : Nat)) := by have h6 := HA.out.1; rw [List.take_of_length_le (by omega)] at h6; exact h6
   go_wp2
   go_ret
   exact ⟨ret_int HE.out, HA.out.2⟩
end Go.Proofs.YtkbcplnlehdjfaaGreat

/- What telling the things of a shelf ends in. -/
namespace Go.Proofs.YtkbcplnlehdjfaaGreat
open Go.RowKit
/-- A list of its own, in a new block, or nothing. -/
def ToldEnds {α : Type} (K : Kind α) (T : TypeId) (w : World) (l : List α) (e : Ending) (w' : World) : Prop := ∃ a cap, e = .returned (.slice a l.length cap) ∧ w'.ownsRow w.heap.size T K.n (.slice a l.length cap) l.length (K.flat l) ∧ Below w.heap.size w w'
end Go.Proofs.YtkbcplnlehdjfaaGreat

/- Rows of ops marked, and read again: the walks. -/
import Derived.Test.YtlaeilcipibelaaDoorPMark
namespace Go.Proofs.YtlaeilcipibelaaDoor
open Go.RowKit

set_option maxHeartbeats 2000000 in
theorem markOpS_own (base g len cap : Nat) (w : World) (hl : len ≤ 20) (hg : base ≤ g) (hB : base ≤ w.heap.size) (hr : MarkO w w base g len 0) :
    Calls Tryd.prog 29 #[.slice (some ⟨g, 0, none⟩) len cap, .int .i64 1] w fun e w' => e = .returned (.int .i64 (1 + len * 4)) ∧ MarkO w w' base g len (len * 4) := by
  have HR : Hid (MarkO w w base g len 0) := hr
  clear hr
  go_enter Tryd.func29, Tryd.ntmps29
  go_wp2_with fail
  go_loopw [1, 5] (fun m i wr => ∃ (k : Nat) (q : Int), k ≤ len ∧ m = .int .i64 q ∧ i = .int .i64 k ∧ Hid (q = 1 + k * 4) ∧ w.heap.size ≤ wr.heap.size ∧ Hid (MarkO w wr base g len (k * 4))) (fun _ i _ => len - (intOf i).toNat)
  case atStart => exact ⟨0, 1, Nat.zero_le _, rfl, rfl, (rfl : (1 : Int) = 1 + (0 : Nat) * 4), Nat.le_refl _, HR⟩
  case round =>
    clear HR
    obtain ⟨k, q, hk, rfl, rfl, HQ, hwz, HM⟩ := hrel
    by_cases hlt : k < len
    · have i0 : (0 : Int) ≤ (k : Int) := by omega
      have i1 : (k : Int) < (len : Int) := by omega
      have w1 : IntKind.i64.wrap (q + 1) = q + 1 := by have := HQ.out; rw [IntKind.wrap_i64]; omega
      have w2 : IntKind.i64.wrap (q + 1 + 1) = q + 1 + 1 := by have := HQ.out; rw [IntKind.wrap_i64]; omega
      have w3 : IntKind.i64.wrap (q + 1 + 1 + 1) = q + 1 + 1 + 1 := by have := HQ.out; rw [IntKind.wrap_i64]; omega
      have w4 : IntKind.i64.wrap (q + 1 + 1 + 1 + 1) = q + 1 + 1 + 1 + 1 := by have := HQ.out; rw [IntKind.wrap_i64]; omega
      obtain ⟨⟨u, hu⟩, hz⟩ := HM.out.at_
      have c0 := hu (k * 4) (by omega)
      have c1 := hu (k * 4 + 1) (by omega)
      have c2 := hu (k * 4 + 2) (by omega)
      have z0 := hz (k * 4)
      have z1 := hz (k * 4 + 1)
      have z2 := hz (k * 4 + 2)
      have HN : Hid (MarkO w (((wr.setCell ⟨g, k * 4, none⟩ (.int .i64 q)).setCell ⟨g, k * 4 + 1, none⟩ (.int .i64 (q + 1))).setCell ⟨g, k * 4 + 2, none⟩ (.int .i64 (q + 1 + 1))) base g len (k * 4 + 3)) := by
        have := HQ.out
        exact ((HM.out.set (by omega) hg (markV_i (by omega) (by omega))).set (by omega) hg (markV_i (by omega) (by omega))).set (by omega) hg (markV_i (by omega) (by omega))
      clear hu hz HM
      go_wp2_with fail
      have hsz : (((wr.setCell ⟨g, k * 4, none⟩ (.int .i64 q)).setCell ⟨g, k * 4 + 1, none⟩ (.int .i64 (q + 1))).setCell ⟨g, k * 4 + 2, none⟩ (.int .i64 (q + 1 + 1))).heap.size = wr.heap.size := by simp
      generalize ((wr.setCell ⟨g, k * 4, none⟩ (.int .i64 q)).setCell ⟨g, k * 4 + 1, none⟩ (.int .i64 (q + 1))).setCell ⟨g, k * 4 + 2, none⟩ (.int .i64 (q + 1 + 1)) = W at *
      clear c0 c1 c2 z0 z1 z2
      refine (markText_any (q + 1 + 1 + 1) (by have := HQ.out; omega) (by have := HQ.out; omega) W).mono ?_
      rintro e x ⟨rfl, hb⟩
      have HN2 : Hid (MarkO w x base g len (k * 4 + 3)) := HN.out.below hb (by omega) (by omega)
      have hxz := hb.size
      obtain ⟨⟨u, hu⟩, hz⟩ := HN2.out.at_
      have c3 := hu (k * 4 + 3) (by omega)
      have z3 := hz (k * 4 + 3)
      have HN3 : Hid (MarkO w (x.setCell ⟨g, k * 4 + 3, none⟩ (.string (markB (q + 1 + 1 + 1)))) base g len (k * 4 + 3 + 1)) := HN2.out.set (by omega) hg (markV_s (by omega) (by have := HQ.out; omega))
      clear hu hz HN HN2 hb
      go_wp2
      go_roundw
      case rel => exact ⟨k + 1, q + 1 + 1 + 1 + 1, by omega, rfl, by go_num, (by have := HQ.out; show q + 1 + 1 + 1 + 1 = 1 + ((k + 1 : Nat) : Int) * 4; omega), by simp; omega, by rw [Nat.add_mul]; exact HN3⟩
      case measure => simp [intOf]; omega
    · have hke : k = len := by omega
      have HKE : Hid (k = len) := hke
      have i1 : ¬ (k : Int) < (len : Int) := by omega
      clear hke
      go_wp2
      go_ret
      have e := HKE.out
      subst e
      exact ⟨congrArg (fun x => Ending.returned (.int .i64 x)) HQ.out, HM.out⟩

/-- The row is marked. -/
def Marked (w : World) (g len : Nat) : Prop := g < w.heap.size ∧ ∀ j, j < len * 4 → w.cell? ⟨g, j, none⟩ = some (markV j)
theorem Marked.of_block {w w' : World} {g len : Nat} (h : Marked w g len) (e : w'.heap[g]? = w.heap[g]?) : Marked w' g len := by
  refine ⟨?_, fun j hj => (World.cell?_of_block (w := w) e).trans (h.2 j hj)⟩
  have h1 := h.1
  rw [Array.getElem?_eq_getElem h1] at e
  exact (Array.getElem?_eq_some_iff.1 e).1
theorem MarkO.marked {w wr : World} {base g len : Nat} (h : MarkO w wr base g len (len * 4)) : Marked wr g len := by
  obtain ⟨cur, h1, h2, h3⟩ := h.row
  refine ⟨(Array.getElem?_eq_some_iff.1 h1).1, fun j hj => ?_⟩
  rw [cell_of_row _ _ _ _ _ _ h1]
  exact h3 j hj

set_option maxHeartbeats 2000000 in
theorem heldOpS_own (g len cap : Nat) (w : World) (hl : len ≤ 20) (hr : Marked w g len) :
    Calls Tryd.prog 30 #[.slice (some ⟨g, 0, none⟩) len cap, .int .i64 1] w fun e w' => e = .returned (.int .i64 (1 + len * 4)) ∧ Below w.heap.size w w' := by
  have HR : Hid (Marked w g len) := hr
  clear hr
  go_enter Tryd.func30, Tryd.ntmps30
  go_wp2_with fail
  go_loopw [1, 5] (fun m i wr => ∃ (k : Nat) (q : Int), k ≤ len ∧ m = .int .i64 q ∧ i = .int .i64 k ∧ Hid (q = 1 + k * 4) ∧ Below w.heap.size w wr) (fun _ i _ => len - (intOf i).toNat)
  case atStart => exact ⟨0, 1, Nat.zero_le _, rfl, rfl, (rfl : (1 : Int) = 1 + (0 : Nat) * 4), Below.refl _ _⟩
  case round =>
    obtain ⟨k, q, hk, rfl, rfl, HQ, hbel⟩ := hrel
    by_cases hlt : k < len
    · have i0 : (0 : Int) ≤ (k : Int) := by omega
      have i1 : (k : Int) < (len : Int) := by omega
      have w1 : IntKind.i64.wrap (q + 1) = q + 1 := by have := HQ.out; rw [IntKind.wrap_i64]; omega
      have w2 : IntKind.i64.wrap (q + 1 + 1) = q + 1 + 1 := by have := HQ.out; rw [IntKind.wrap_i64]; omega
      have w3 : IntKind.i64.wrap (q + 1 + 1 + 1) = q + 1 + 1 + 1 := by have := HQ.out; rw [IntKind.wrap_i64]; omega
      have w4 : IntKind.i64.wrap (q + 1 + 1 + 1 + 1) = q + 1 + 1 + 1 + 1 := by have := HQ.out; rw [IntKind.wrap_i64]; omega
      have HW : Hid (Marked wr g len) := HR.out.of_block (hbel.block g HR.out.1)
      have keyi : ∀ (W : World) (j : Nat) (m : Int), Marked W g len → j < len * 4 → j % 4 ≠ 3 → m = 1 + j → W.cell? ⟨g, j, none⟩ = some (.int .i64 m) := fun W j m h hj h3 hm => by rw [markV_i h3 hm]; exact h.2 j hj
      have keys : ∀ (W : World) (j : Nat) (m : Int), Marked W g len → j < len * 4 → j % 4 = 3 → m = 1 + j → W.cell? ⟨g, j, none⟩ = some (.string (markB m)) := fun W j m h hj h3 hm => by rw [markV_s h3 hm]; exact h.2 j hj
      have c0 := keyi wr (k * 4) q HW.out (by omega) (by omega) (by have := HQ.out; omega)
      have c1 := keyi wr (k * 4 + 1) (q + 1) HW.out (by omega) (by omega) (by have := HQ.out; omega)
      have c2 := keyi wr (k * 4 + 2) (q + 1 + 1) HW.out (by omega) (by omega) (by have := HQ.out; omega)
      have c3 := keys wr (k * 4 + 3) (q + 1 + 1 + 1) HW.out (by omega) (by omega) (by have := HQ.out; omega)
      have hgr : g < wr.heap.size := HW.out.1
      have q1 : 1 ≤ q + 1 + 1 + 1 := by have := HQ.out; omega
      have q2 : q + 1 + 1 + 1 ≤ 9999999 := by have := HQ.out; omega
      clear keyi keys HW
      go_wp2_with fail
      clear c0 c1 c2
      go_region_held3 (fun w' => w'.cell? ⟨g, k * 4 + 3, none⟩ = some (.string (markB (q + 1 + 1 + 1)))) (first | go_keep | exact (hb1.cell (p := ⟨g, k * 4 + 3, none⟩) hgr).trans c3) (first | (go_at_call 61; refine (markText_any _ q1 q2 _).mono ?_; rintro e w1 ⟨rfl, hb1⟩))
      clear c3
      go_wp2
      go_roundw
      case rel => exact ⟨k + 1, q + 1 + 1 + 1 + 1, by omega, rfl, by go_num, (by have := HQ.out; show q + 1 + 1 + 1 + 1 = 1 + ((k + 1 : Nat) : Int) * 4; omega), hbel.drew.trans (hb1.mono hbel.size)⟩
      case measure => simp [intOf]; omega
    · have hke : k = len := by omega
      have HKE : Hid (k = len) := hke
      have i1 : ¬ (k : Int) < (len : Int) := by omega
      clear hke
      go_wp2
      go_ret
      have e := HKE.out
      subst e
      exact ⟨congrArg (fun x => Ending.returned (.int .i64 x)) HQ.out, hbel⟩

theorem markOpS_nil (a : Option Addr) (cap : Nat) (W : World) : Calls Tryd.prog 29 #[.slice a 0 cap, .int .i64 1] W fun e w' => e = .returned (.int .i64 1) ∧ w' = W := by
  go_enter Tryd.func29, Tryd.ntmps29
  go_wp2_with fail
  go_loopw [1, 5] (fun m i wr => m = .int .i64 1 ∧ i = .int .i64 0 ∧ wr = W) (fun _ _ _ => 0)
  case atStart => exact ⟨rfl, rfl, rfl⟩
  case round =>
    obtain ⟨rfl, rfl, rfl⟩ := hrel
    go_wp2
    go_ret
    exact ⟨rfl, rfl⟩
theorem heldOpS_nil (a : Option Addr) (cap : Nat) (W : World) : Calls Tryd.prog 30 #[.slice a 0 cap, .int .i64 1] W fun e w' => e = .returned (.int .i64 1) ∧ w' = W := by
  go_enter Tryd.func30, Tryd.ntmps30
  go_wp2_with fail
  go_loopw [1, 5] (fun m i wr => m = .int .i64 1 ∧ i = .int .i64 0 ∧ wr = W) (fun _ _ _ => 0)
  case atStart => exact ⟨rfl, rfl, rfl⟩
  case round =>
    obtain ⟨rfl, rfl, rfl⟩ := hrel
    go_wp2
    go_ret
    exact ⟨rfl, rfl⟩

end Go.Proofs.YtlaeilcipibelaaDoor

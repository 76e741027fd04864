/- Small facts, and what the specification's l1In answers. -/
import Derived.Test.YtlaeilcipibelaaGreatDoorRows
import Derived.WalkKit
import Derived.Handy
import Derived.Deep.OwnRows
namespace Go.Proofs.YtlaeilcipibelaaGreatDoor
open Go.RowKit

def inB (n lo hi : Int) : Bool := decide (lo ≤ n) && decide (n ≤ hi)

def szOf (left : Int) (len : Nat) : Int := if left < len then -1 else left - len
theorem szOf_neg {left : Int} {len : Nat} (h : left < len) : szOf left len = -1 := if_pos h
theorem szOf_pos {left : Int} {len : Nat} (h : (len : Int) ≤ left) : szOf left len = left - len := if_neg (by omega)

theorem inB_true {n lo hi : Int} (h1 : lo ≤ n) (h2 : n ≤ hi) : inB n lo hi = true := by simp [inB, h1, h2]
theorem inB_low {n lo hi : Int} (h : n < lo) : inB n lo hi = false := by simp [inB]; omega
theorem inB_high {n lo hi : Int} (h : hi < n) : inB n lo hi = false := by simp [inB]; omega
theorem ret_bool {a b : Bool} (h : a = b) : Ending.returned (.bool a) = .returned (.bool b) := by rw [h]
theorem ret_int {k : IntKind} {a b : Int} (h : a = b) : Ending.returned (.int k a) = .returned (.int k b) := by rw [h]

/-- The windows of a frame lie in block g: three numbers a window. -/
def WinsAt (w : World) (g len : Nat) (Z : Nat → Int) : Prop := g < w.heap.size ∧ ∀ j, j < len * 3 → w.cell? ⟨g, j, none⟩ = some (.int .i64 (Z j))
theorem WinsAt.lt {w : World} {g len : Nat} {Z : Nat → Int} (h : WinsAt w g len Z) : g < w.heap.size := h.1
theorem WinsAt.cell {w : World} {g len : Nat} {Z : Nat → Int} (h : WinsAt w g len Z) {i : Nat} (hi : i < len * 3) : w.cell? ⟨g, i, none⟩ = some (.int .i64 (Z i)) := h.2 i hi
theorem WinsAt.of_block {w w' : World} {g len : Nat} {Z : Nat → Int} (h : WinsAt w g len Z) (e : w'.heap[g]? = w.heap[g]?) : WinsAt w' g len Z := by
  refine ⟨?_, fun j hj => (World.cell?_of_block (w := w) e).trans (h.2 j hj)⟩
  have h1 := h.1
  rw [Array.getElem?_eq_getElem h1] at e
  exact (Array.getElem?_eq_some_iff.1 e).1
theorem WinsAt.alloc {w : World} {g len : Nat} {Z : Nat → Int} (h : WinsAt w g len Z) (o : Obj) : WinsAt (w.alloc o) g len Z := h.of_block (Below.heap_alloc w o g h.1)
theorem rowIs_wins {w : World} {g t len : Nat} {Z : Nat → Int} (h : w.rowIs g t (len * 3) (fun j => .int .i64 (Z j))) : WinsAt w g len Z := ⟨h.lt, fun _ hj => h.cell hj⟩

set_option maxHeartbeats 400000 in
theorem l1In_any (n lo hi : Int) (w : World) :
    Calls Tryz.prog 49 #[.int .i64 n, .int .i64 lo, .int .i64 hi] w fun e w' => e = .returned (.bool (inB n lo hi)) ∧ w' = w := by
  by_cases h1 : lo ≤ n
  · by_cases h2 : n ≤ hi
    · go_enter Tryz.func49, Tryz.ntmps49
      go_wp2
      go_ret
      exact ⟨ret_bool (inB_true h1 h2).symm, rfl⟩
    · go_enter Tryz.func49, Tryz.ntmps49
      go_wp2
      go_ret
      exact ⟨ret_bool (inB_high (by omega)).symm, rfl⟩
  · go_enter Tryz.func49, Tryz.ntmps49
    go_wp2
    go_ret
    exact ⟨ret_bool (inB_low (by omega)).symm, rfl⟩

end Go.Proofs.YtlaeilcipibelaaGreatDoor

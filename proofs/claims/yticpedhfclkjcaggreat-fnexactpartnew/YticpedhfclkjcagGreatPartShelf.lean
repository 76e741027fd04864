/- Shelves of nothing: each is a map of nothing. -/
import Derived.Test.YticpedhfclkjcagGreatPartNil
import Derived.Carry
namespace Go.Proofs.YticpedhfclkjcagGreat
open Go.RowKit

/-- A shelf of nothing, in new memory. -/
def EmptyShelf (w : World) (most : Int) (e : Ending) (w' : World) : Prop := ∃ b, e = .returned (.tuple #[.agg #[.int .i64 most, .map (some b)], .bool true]) ∧ w.heap.size ≤ b ∧ w'.heap[b]? = some (.map #[] 0) ∧ Below w.heap.size w w'

set_option maxHeartbeats 2000000 in
theorem shelfOfProc_nil (most : Int) (w : World) : Calls Tryz.prog 77 #[.slice none 0 0, .int .i64 most] w fun e w' => EmptyShelf w most e w' := by
  have hmk := run_makeMap (P := Tryz.prog) 93
  go_enter Tryz.func77, Tryz.ntmps77
  go_wp2
  go_loop [15] (fun i => i = .int .i64 0) (fun _ => 0)
  case atStart => rfl
  case round =>
    subst hrel
    go_wp2
    exact bodyPost_ret (v := .tuple #[.agg #[.int .i64 most, .map (some (w.heap.size + 1))], .bool true]) (by simp [results, Tryz.results77, go_sem]) rfl ⟨w.heap.size + 1, rfl, by omega, (heap_alloc_old _ _ (by simp)).trans (heap_alloc2_new _ _ _), by go_grown⟩
set_option maxHeartbeats 2000000 in
theorem shelfOfSem_nil (most : Int) (w : World) : Calls Tryz.prog 78 #[.slice none 0 0, .int .i64 most] w fun e w' => EmptyShelf w most e w' := by
  have hmk := run_makeMap (P := Tryz.prog) 96
  go_enter Tryz.func78, Tryz.ntmps78
  go_wp2
  go_loop [15] (fun i => i = .int .i64 0) (fun _ => 0)
  case atStart => rfl
  case round =>
    subst hrel
    go_wp2
    exact bodyPost_ret (v := .tuple #[.agg #[.int .i64 most, .map (some (w.heap.size + 1))], .bool true]) (by simp [results, Tryz.results78, go_sem]) rfl ⟨w.heap.size + 1, rfl, by omega, (heap_alloc_old _ _ (by simp)).trans (heap_alloc2_new _ _ _), by go_grown⟩
set_option maxHeartbeats 2000000 in
theorem shelfOfEvent_nil (most : Int) (w : World) : Calls Tryz.prog 79 #[.slice none 0 0, .int .i64 most] w fun e w' => EmptyShelf w most e w' := by
  have hmk := run_makeMap (P := Tryz.prog) 99
  go_enter Tryz.func79, Tryz.ntmps79
  go_wp2
  go_loop [15] (fun i => i = .int .i64 0) (fun _ => 0)
  case atStart => rfl
  case round =>
    subst hrel
    go_wp2
    exact bodyPost_ret (v := .tuple #[.agg #[.int .i64 most, .map (some (w.heap.size + 1))], .bool true]) (by simp [results, Tryz.results79, go_sem]) rfl ⟨w.heap.size + 1, rfl, by omega, (heap_alloc_old _ _ (by simp)).trans (heap_alloc2_new _ _ _), by go_grown⟩
set_option maxHeartbeats 2000000 in
theorem shelfOfBoard_nil (most : Int) (w : World) : Calls Tryz.prog 80 #[.slice none 0 0, .int .i64 most] w fun e w' => EmptyShelf w most e w' := by
  have hmk := run_makeMap (P := Tryz.prog) 102
  go_enter Tryz.func80, Tryz.ntmps80
  go_wp2
  go_loop [15] (fun i => i = .int .i64 0) (fun _ => 0)
  case atStart => rfl
  case round =>
    subst hrel
    go_wp2
    exact bodyPost_ret (v := .tuple #[.agg #[.int .i64 most, .map (some (w.heap.size + 1))], .bool true]) (by simp [results, Tryz.results80, go_sem]) rfl ⟨w.heap.size + 1, rfl, by omega, (heap_alloc_old _ _ (by simp)).trans (heap_alloc2_new _ _ _), by go_grown⟩
set_option maxHeartbeats 2000000 in
theorem shelfOfBuffer_nil (most : Int) (w : World) : Calls Tryz.prog 81 #[.slice none 0 0, .int .i64 most] w fun e w' => EmptyShelf w most e w' := by
  have hmk := run_makeMap (P := Tryz.prog) 105
  go_enter Tryz.func81, Tryz.ntmps81
  go_wp2
  go_loop [15] (fun i => i = .int .i64 0) (fun _ => 0)
  case atStart => rfl
  case round =>
    subst hrel
    go_wp2
    exact bodyPost_ret (v := .tuple #[.agg #[.int .i64 most, .map (some (w.heap.size + 1))], .bool true]) (by simp [results, Tryz.results81, go_sem]) rfl ⟨w.heap.size + 1, rfl, by omega, (heap_alloc_old _ _ (by simp)).trans (heap_alloc2_new _ _ _), by go_grown⟩
set_option maxHeartbeats 2000000 in
theorem shelfOfPort_nil (most : Int) (w : World) : Calls Tryz.prog 82 #[.slice none 0 0, .int .i64 most] w fun e w' => EmptyShelf w most e w' := by
  have hmk := run_makeMap (P := Tryz.prog) 108
  go_enter Tryz.func82, Tryz.ntmps82
  go_wp2
  go_loop [15] (fun i => i = .int .i64 0) (fun _ => 0)
  case atStart => rfl
  case round =>
    subst hrel
    go_wp2
    exact bodyPost_ret (v := .tuple #[.agg #[.int .i64 most, .map (some (w.heap.size + 1))], .bool true]) (by simp [results, Tryz.results82, go_sem]) rfl ⟨w.heap.size + 1, rfl, by omega, (heap_alloc_old _ _ (by simp)).trans (heap_alloc2_new _ _ _), by go_grown⟩

end Go.Proofs.YticpedhfclkjcagGreat

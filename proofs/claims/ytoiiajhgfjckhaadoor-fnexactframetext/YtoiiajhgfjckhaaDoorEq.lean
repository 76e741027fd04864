/- Frames held against each other, and the law's measure of its argument. -/
import Derived.Test.YtoiiajhgfjckhaaDoorTable
import Derived.Test.YtoiiajhgfjckhaaDoorRow
import Derived.Deep.QuietTactic
import Derived.BigQuiet
import Derived.Deep.RegionWith
import Derived.Deep.RegionHeld3
namespace Go.Proofs.YtoiiajhgfjckhaaDoor
open Go.RowKit

set_option maxHeartbeats 1000000 in
theorem szFrame_any (major : Int) (a : Option Addr) (len cap : Nat) (left : Int) (w : World) (hl : len ≤ maxLen) (h0 : 0 ≤ left) (h1 : left ≤ 1048576) :
    Calls Tryd.prog 17 #[.agg #[.int .i64 major, .slice a len cap], .int .i64 left] w fun e w' => e = .returned (.int .i64 (szOf left len)) ∧ Below w.heap.size w w' := by
  have hl' := hl
  unfold maxLen at hl'
  by_cases h : left < len
  · have e : szOf left len = -1 := szOf_neg h
    go_enter Tryd.func17, Tryd.ntmps17
    go_wp2_with (go_at_call 45; refine (szWindowS_any _ _ _ _ _ hl h0 h1).mono ?_; rintro e w' ⟨rfl, rfl⟩)
    go_ret
    exact ⟨ret_int e.symm, by go_grown⟩
  · have e : szOf left len = left - len := szOf_pos (by omega)
    have k : ¬ left - len < 0 := by omega
    go_enter Tryd.func17, Tryd.ntmps17
    go_wp2_with (go_at_call 45; refine (szWindowS_any _ _ _ _ _ hl h0 h1).mono ?_; rintro e w' ⟨rfl, rfl⟩)
    go_ret
    exact ⟨ret_int e.symm, by go_grown⟩

set_option maxHeartbeats 1000000 in
theorem eqWindowS_any (g g' len : Nat) (Z : Nat → Int) (w : World) (hl : len ≤ 1048576) (hr : w.rowIs g 56 (len * 3) (fun j => .int .i64 (Z j))) (hr' : w.rowIs g' 56 (len * 3) (fun j => .int .i64 (Z j))) :
    Calls Tryd.prog 47 #[.slice (some ⟨g, 0, none⟩) len len, .slice (some ⟨g', 0, none⟩) len len] w fun e w' => e = .returned (.bool true) ∧ Below w.heap.size w w' := by
  have hg := hr.lt
  have hg' := hr'.lt
  go_enter Tryd.func47, Tryd.ntmps47
  go_wp2
  go_loopw [5] (fun i wr => ∃ k : Nat, k ≤ len ∧ i = .int .i64 k ∧ Below w.heap.size w wr) (fun i _ => len - (intOf i).toNat)
  case atStart => exact ⟨0, Nat.zero_le _, rfl, Below.refl _ _⟩
  case round =>
    obtain ⟨k, hk, rfl, hbel⟩ := hrel
    by_cases hlt : k < len
    · have hra : wr.rowIs g 56 (len * 3) (fun j => .int .i64 (Z j)) := hr.of_block (hbel.block g hg)
      have hrb : wr.rowIs g' 56 (len * 3) (fun j => .int .i64 (Z j)) := hr'.of_block (hbel.block g' hg')
      have c0 : wr.cell? ⟨g, k * 3, none⟩ = some (.int .i64 (Z (k * 3))) := hra.cell (by omega)
      have c1 : wr.cell? ⟨g, k * 3 + 1, none⟩ = some (.int .i64 (Z (k * 3 + 1))) := hra.cell (by omega)
      have c2 : wr.cell? ⟨g, k * 3 + 2, none⟩ = some (.int .i64 (Z (k * 3 + 2))) := hra.cell (by omega)
      have d0 : wr.cell? ⟨g', k * 3, none⟩ = some (.int .i64 (Z (k * 3))) := hrb.cell (by omega)
      have d1 : wr.cell? ⟨g', k * 3 + 1, none⟩ = some (.int .i64 (Z (k * 3 + 1))) := hrb.cell (by omega)
      have d2 : wr.cell? ⟨g', k * 3 + 2, none⟩ = some (.int .i64 (Z (k * 3 + 2))) := hrb.cell (by omega)
      clear hra hrb hr hr'
      have i0 : (0 : Int) ≤ (k : Int) := by omega
      have i1 : (k : Int) < (len : Int) := by omega
      have hgr : g < wr.heap.size := block_lt_of_cell c0
      have hgr' : g' < wr.heap.size := block_lt_of_cell d0
      go_wp2
      go_region_held3 (fun w' => w'.cell? ⟨g, k * 3, none⟩ = some (.int .i64 (Z (k * 3))) ∧ w'.cell? ⟨g, k * 3 + 1, none⟩ = some (.int .i64 (Z (k * 3 + 1))) ∧ w'.cell? ⟨g, k * 3 + 2, none⟩ = some (.int .i64 (Z (k * 3 + 2))) ∧ w'.cell? ⟨g', k * 3, none⟩ = some (.int .i64 (Z (k * 3))) ∧ w'.cell? ⟨g', k * 3 + 1, none⟩ = some (.int .i64 (Z (k * 3 + 1))) ∧ w'.cell? ⟨g', k * 3 + 2, none⟩ = some (.int .i64 (Z (k * 3 + 2)))) (first | go_keep | exact ⟨(hb1.cell (p := ⟨g, k * 3, none⟩) hgr).trans c0, (hb1.cell (p := ⟨g, k * 3 + 1, none⟩) hgr).trans c1, (hb1.cell (p := ⟨g, k * 3 + 2, none⟩) hgr).trans c2, (hb1.cell (p := ⟨g', k * 3, none⟩) hgr').trans d0, (hb1.cell (p := ⟨g', k * 3 + 1, none⟩) hgr').trans d1, (hb1.cell (p := ⟨g', k * 3 + 2, none⟩) hgr').trans d2⟩) (first | (go_at_call 71; refine (eqWindow_any _ _ _ _ _ _ _).mono ?_; rintro e w1 ⟨rfl, hb1⟩))
      clear c0 c1 c2 d0 d1 d2
      go_wp2
      go_roundw
      case rel => exact ⟨k + 1, by omega, by go_num, hbel.drew.trans (hb1.mono hbel.size)⟩
      case measure => simp [intOf]; omega
    · go_wp2
      go_ret
      exact ⟨rfl, hbel⟩

set_option maxHeartbeats 1000000 in
theorem eqFrame_any (major : Int) (g g' len : Nat) (Z : Nat → Int) (w : World) (hl : len ≤ 1048576) (hr : w.rowIs g 56 (len * 3) (fun j => .int .i64 (Z j))) (hr' : w.rowIs g' 56 (len * 3) (fun j => .int .i64 (Z j))) :
    Calls Tryd.prog 19 #[.agg #[.int .i64 major, .slice (some ⟨g, 0, none⟩) len len], .agg #[.int .i64 major, .slice (some ⟨g', 0, none⟩) len len]] w fun e w' => e = .returned (.bool true) ∧ Below w.heap.size w w' := by
  have HR : Hid (w.rowIs g 56 (len * 3) (fun j => .int .i64 (Z j))) := hr
  have HR' : Hid (w.rowIs g' 56 (len * 3) (fun j => .int .i64 (Z j))) := hr'
  clear hr hr'
  go_enter Tryd.func19, Tryd.ntmps19
  go_wp2_with fail
  refine (eqWindowS_any g g' len Z _ hl ((HR.out.alloc _).alloc _) ((HR'.out.alloc _).alloc _)).mono ?_
  rintro e w1 ⟨rfl, hb1⟩
  go_wp2
  go_ret
  exact ⟨rfl, (((Below.refl _ _).alloc (Nat.le_refl _) _).alloc (by simp) _).trans (hb1.mono (by simp; omega))⟩

end Go.Proofs.YtoiiajhgfjckhaaDoor

/- The law's measure of a program, and two programs held against each other. -/
import Derived.Test.YtoiiajhgfjckhaaDoorProgRow
import Derived.Deep.RegionHeld3
namespace Go.Proofs.YtoiiajhgfjckhaaDoor
open Go.RowKit

set_option maxHeartbeats 1000000 in
theorem szOpS_any (a : Option Addr) (len cap : Nat) (K N M : Nat → Int) (S : Nat → ByteArray) (w : World) (hl : len ≤ maxLen) (hs : SrcO w a len (opV K N M S)) (hS : ∀ i, i < len → (S i).size ≤ maxLen) :
    Calls Tryd.prog 22 #[.slice a len cap, .int .i64 1048576] w fun e w' => ∃ r : Int, e = .returned (.int .i64 r) ∧ -1 ≤ r ∧ r ≤ 1048576 ∧ (0 ≤ r → len ≤ 1048576 ∧ ∀ i, i < len → (S i).size ≤ 1048576) ∧ Below w.heap.size w w' := by
  have hl' := hl
  unfold maxLen at hl'
  by_cases h : (1048576 : Int) < len
  · have h' : (1048576 : Int) - len < 0 := by omega
    go_enter Tryd.func22, Tryd.ntmps22
    go_wp2
    go_ret
    exact ⟨-1, rfl, by omega, by omega, fun h => absurd h (by omega), Below.refl _ _⟩
  have h' : ¬ (1048576 : Int) - len < 0 := by omega
  have HS : Hid (∀ i, i < len → (S i).size ≤ maxLen) := hS
  have HSR : Hid (SrcO w a len (opV K N M S)) := hs
  clear hS hs hl
  go_enter Tryd.func22, Tryd.ntmps22
  go_wp2
  go_loopw [1, 5] (fun l i wr => ∃ (k : Nat) (r : Int), k ≤ len ∧ i = .int .i64 k ∧ l = .int .i64 r ∧ 0 ≤ r ∧ r ≤ 1048576 ∧ (∀ j, j < k → (S j).size ≤ 1048576) ∧ Below w.heap.size w wr) (fun _ i _ => len - (intOf i).toNat)
  case atStart => exact ⟨0, 1048576 - len, Nat.zero_le _, rfl, rfl, by omega, by omega, fun j hj => absurd hj (by omega), Below.refl _ _⟩
  case round =>
    obtain ⟨k, r, hk, rfl, rfl, r0, r1, hall, hbel⟩ := hrel
    have HA : Hid (∀ j, j < k → (S j).size ≤ 1048576) := hall
    have HB : Hid (Below w.heap.size w wr) := hbel
    have HW : Hid (SrcO wr a len (opV K N M S)) := HSR.out.below hbel
    clear hall hbel
    by_cases hlt : k < len
    · rcases HW.out with h0 | ⟨b, off, rfl, hc⟩
      · omega
      have c0 : wr.cell? ⟨b, off + k * 4, none⟩ = some (.int .i64 (K k)) := by rw [← opV_0 K N M S k]; exact hc (k * 4) (by omega)
      have c1 : wr.cell? ⟨b, off + k * 4 + 1, none⟩ = some (.int .i64 (N k)) := by rw [← opV_1 K N M S k]; exact hc (k * 4 + 1) (by omega)
      have c2 : wr.cell? ⟨b, off + k * 4 + 2, none⟩ = some (.int .i64 (M k)) := by rw [← opV_2 K N M S k]; exact hc (k * 4 + 2) (by omega)
      have c3 : wr.cell? ⟨b, off + k * 4 + 3, none⟩ = some (.string (S k)) := by rw [← opV_3 K N M S k]; exact hc (k * 4 + 3) (by omega)
      clear hc
      have i0 : (0 : Int) ≤ (k : Int) := by omega
      have i1 : (k : Int) < (len : Int) := by omega
      go_wp2_with fail
      refine (szOp_any (K k) (N k) (M k) (S k) r wr (HS.out k hlt) r0 r1).mono ?_
      rintro e w1 ⟨rfl, hb1⟩
      have HB1 : Hid (Below w.heap.size w w1) := HB.out.trans (hb1.mono HB.out.size)
      clear hb1 c0 c1 c2 c3
      by_cases hsz : r < (S k).size
      · rw [szOf_neg hsz]
        go_wp2
        go_ret
        exact ⟨-1, rfl, by omega, by omega, fun h => absurd h (by omega), HB1.out⟩
      · rw [szOf_pos (by omega)]
        have hnn : ¬ r - ((S k).size : Int) < 0 := by omega
        go_wp2
        go_roundw
        case rel => exact ⟨k + 1, r - (S k).size, by omega, by go_num, rfl, by omega, by omega, fun j hj => by
          by_cases e : j = k
          · subst e; omega
          · exact HA.out j (by omega), HB1.out⟩
        case measure => simp [intOf]; omega
    · go_wp2
      go_ret
      exact ⟨r, rfl, by omega, r1, fun _ => ⟨by omega, fun j hj => HA.out j (by omega)⟩, HB.out⟩

set_option maxHeartbeats 1000000 in
theorem eqOpS_any (g g' len : Nat) (K N M : Nat → Int) (S : Nat → ByteArray) (w : World) (hl : len ≤ 1048576) (hr : w.rowIs g 85 (len * 4) (opV K N M S)) (hr' : w.rowIs g' 85 (len * 4) (opV K N M S)) :
    Calls Tryd.prog 26 #[.slice (some ⟨g, 0, none⟩) len len, .slice (some ⟨g', 0, none⟩) len len] w fun e w' => e = .returned (.bool true) ∧ Below w.heap.size w w' := by
  have hg := hr.lt
  have hg' := hr'.lt
  have HRA : Hid (w.rowIs g 85 (len * 4) (opV K N M S)) := hr
  have HRB : Hid (w.rowIs g' 85 (len * 4) (opV K N M S)) := hr'
  clear hr hr'
  go_enter Tryd.func26, Tryd.ntmps26
  go_wp2
  go_loopw [5] (fun i wr => ∃ k : Nat, k ≤ len ∧ i = .int .i64 k ∧ Below w.heap.size w wr) (fun i _ => len - (intOf i).toNat)
  case atStart => exact ⟨0, Nat.zero_le _, rfl, Below.refl _ _⟩
  case round =>
    obtain ⟨k, hk, rfl, hbel⟩ := hrel
    by_cases hlt : k < len
    · have hra : wr.rowIs g 85 (len * 4) (opV K N M S) := HRA.out.of_block (hbel.block g hg)
      have hrb : wr.rowIs g' 85 (len * 4) (opV K N M S) := HRB.out.of_block (hbel.block g' hg')
      have c0 : wr.cell? ⟨g, k * 4, none⟩ = some (.int .i64 (K k)) := by rw [← opV_0 K N M S]; exact hra.cell (by omega)
      have c1 : wr.cell? ⟨g, k * 4 + 1, none⟩ = some (.int .i64 (N k)) := by rw [← opV_1 K N M S]; exact hra.cell (by omega)
      have c2 : wr.cell? ⟨g, k * 4 + 2, none⟩ = some (.int .i64 (M k)) := by rw [← opV_2 K N M S]; exact hra.cell (by omega)
      have c3 : wr.cell? ⟨g, k * 4 + 3, none⟩ = some (.string (S k)) := by rw [← opV_3 K N M S]; exact hra.cell (by omega)
      have d0 : wr.cell? ⟨g', k * 4, none⟩ = some (.int .i64 (K k)) := by rw [← opV_0 K N M S]; exact hrb.cell (by omega)
      have d1 : wr.cell? ⟨g', k * 4 + 1, none⟩ = some (.int .i64 (N k)) := by rw [← opV_1 K N M S]; exact hrb.cell (by omega)
      have d2 : wr.cell? ⟨g', k * 4 + 2, none⟩ = some (.int .i64 (M k)) := by rw [← opV_2 K N M S]; exact hrb.cell (by omega)
      have d3 : wr.cell? ⟨g', k * 4 + 3, none⟩ = some (.string (S k)) := by rw [← opV_3 K N M S]; exact hrb.cell (by omega)
      clear hra hrb
      have i0 : (0 : Int) ≤ (k : Int) := by omega
      have i1 : (k : Int) < (len : Int) := by omega
      have hgr : g < wr.heap.size := block_lt_of_cell c0
      have hgr' : g' < wr.heap.size := block_lt_of_cell d0
      go_wp2_with fail
      go_region_held3 (fun w' => w'.cell? ⟨g, k * 4, none⟩ = some (.int .i64 (K k)) ∧ w'.cell? ⟨g, k * 4 + 1, none⟩ = some (.int .i64 (N k)) ∧ w'.cell? ⟨g, k * 4 + 2, none⟩ = some (.int .i64 (M k)) ∧ w'.cell? ⟨g, k * 4 + 3, none⟩ = some (.string (S k)) ∧ w'.cell? ⟨g', k * 4, none⟩ = some (.int .i64 (K k)) ∧ w'.cell? ⟨g', k * 4 + 1, none⟩ = some (.int .i64 (N k)) ∧ w'.cell? ⟨g', k * 4 + 2, none⟩ = some (.int .i64 (M k)) ∧ w'.cell? ⟨g', k * 4 + 3, none⟩ = some (.string (S k))) (first | go_keep | exact ⟨(hb1.cell (p := ⟨g, k * 4, none⟩) hgr).trans c0, (hb1.cell (p := ⟨g, k * 4 + 1, none⟩) hgr).trans c1, (hb1.cell (p := ⟨g, k * 4 + 2, none⟩) hgr).trans c2, (hb1.cell (p := ⟨g, k * 4 + 3, none⟩) hgr).trans c3, (hb1.cell (p := ⟨g', k * 4, none⟩) hgr').trans d0, (hb1.cell (p := ⟨g', k * 4 + 1, none⟩) hgr').trans d1, (hb1.cell (p := ⟨g', k * 4 + 2, none⟩) hgr').trans d2, (hb1.cell (p := ⟨g', k * 4 + 3, none⟩) hgr').trans d3⟩) (first | (go_at_call 58; refine (eqOp_same _ _ _ _ _).mono ?_; rintro e w1 ⟨rfl, hb1⟩))
      clear c0 c1 c2 c3 d0 d1 d2 d3
      go_wp2
      go_roundw
      case rel => exact ⟨k + 1, by omega, by go_num, hbel.drew.trans (hb1.mono hbel.size)⟩
      case measure => simp [intOf]; omega
    · go_wp2
      go_ret
      exact ⟨rfl, hbel⟩

end Go.Proofs.YtoiiajhgfjckhaaDoor

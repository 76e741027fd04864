/- Frames in rows of their own: held against each other, marked, and read again. -/
import Derived.Test.YtoiiajhgfjckhaaDoorRdBase
import Derived.Test.YtoiiajhgfjckhaaDoorSmall
import Derived.Deep.RegionHeld3
namespace Go.Proofs.YtoiiajhgfjckhaaDoor
open Go.RowKit

/-- A list of windows, wherever it lies; a list of none may lie nowhere. -/
def Lies (w : World) (a : Option Addr) (len : Nat) (Z : Nat → Int) : Prop := 0 < len → ∃ g, a = some ⟨g, 0, none⟩ ∧ WinsAt w g len Z
theorem Lies.below {w w' : World} {a : Option Addr} {len : Nat} {Z : Nat → Int} (h : Lies w a len Z) (hb : Below w.heap.size w w') : Lies w' a len Z := fun hl => by
  obtain ⟨g, rfl, hw⟩ := h hl
  exact ⟨g, rfl, hw.of_block (hb.block g hw.lt)⟩
theorem Lies.own {w : World} {base : Nat} {v : Value} {ws : List Win} (h : w.ownsRow base 56 3 v ws.length (cellsW ws)) : ∃ a c, v = .slice a ws.length c ∧ Lies w a ws.length (zOf ws) := by
  rcases own_form h rfl with ⟨rfl, h0⟩ | ⟨g, c, rfl, _, hw⟩
  · exact ⟨none, 0, by rw [h0], fun hl => by omega⟩
  · exact ⟨_, c, rfl, fun _ => ⟨g, rfl, hw⟩⟩

set_option maxHeartbeats 1000000 in
theorem eqWindowS_own (a a' : Option Addr) (len cap cap' : Nat) (Z : Nat → Int) (w : World) (hl : len ≤ 1048576) (hr : Lies w a len Z) (hr' : Lies w a' len Z) :
    Calls Tryd.prog 47 #[.slice a len cap, .slice a' len cap'] w fun e w' => e = .returned (.bool true) ∧ Below w.heap.size w w' := by
  have HR : Hid (Lies w a len Z ∧ Lies w a' len Z) := ⟨hr, hr'⟩
  clear hr hr'
  go_enter Tryd.func47, Tryd.ntmps47
  go_wp2
  go_loopw [5] (fun i wr => ∃ k : Nat, k ≤ len ∧ i = .int .i64 k ∧ Below w.heap.size w wr) (fun i _ => len - (intOf i).toNat)
  case atStart => exact ⟨0, Nat.zero_le _, rfl, Below.refl _ _⟩
  case round =>
    obtain ⟨k, hk, rfl, hbel⟩ := hrel
    by_cases hlt : k < len
    · obtain ⟨g, rfl, hra⟩ := (HR.out.1.below hbel) (by omega)
      obtain ⟨g', rfl, hrb⟩ := (HR.out.2.below hbel) (by omega)
      have c0 : wr.cell? ⟨g, k * 3, none⟩ = some (.int .i64 (Z (k * 3))) := hra.cell (by omega)
      have c1 : wr.cell? ⟨g, k * 3 + 1, none⟩ = some (.int .i64 (Z (k * 3 + 1))) := hra.cell (by omega)
      have c2 : wr.cell? ⟨g, k * 3 + 2, none⟩ = some (.int .i64 (Z (k * 3 + 2))) := hra.cell (by omega)
      have d0 : wr.cell? ⟨g', k * 3, none⟩ = some (.int .i64 (Z (k * 3))) := hrb.cell (by omega)
      have d1 : wr.cell? ⟨g', k * 3 + 1, none⟩ = some (.int .i64 (Z (k * 3 + 1))) := hrb.cell (by omega)
      have d2 : wr.cell? ⟨g', k * 3 + 2, none⟩ = some (.int .i64 (Z (k * 3 + 2))) := hrb.cell (by omega)
      clear hra hrb HR
      have i0 : (0 : Int) ≤ (k : Int) := by omega
      have i1 : (k : Int) < (len : Int) := by omega
      have hgr : g < wr.heap.size := block_lt_of_cell c0
      have hgr' : g' < wr.heap.size := block_lt_of_cell d0
      go_wp2
      go_region_held3 (fun w' => w'.cell? ⟨g, k * 3, none⟩ = some (.int .i64 (Z (k * 3))) ∧ w'.cell? ⟨g, k * 3 + 1, none⟩ = some (.int .i64 (Z (k * 3 + 1))) ∧ w'.cell? ⟨g, k * 3 + 2, none⟩ = some (.int .i64 (Z (k * 3 + 2))) ∧ w'.cell? ⟨g', k * 3, none⟩ = some (.int .i64 (Z (k * 3))) ∧ w'.cell? ⟨g', k * 3 + 1, none⟩ = some (.int .i64 (Z (k * 3 + 1))) ∧ w'.cell? ⟨g', k * 3 + 2, none⟩ = some (.int .i64 (Z (k * 3 + 2)))) (first | go_keep | exact ⟨(hb1.cell (p := ⟨g, k * 3, none⟩) hgr).trans c0, (hb1.cell (p := ⟨g, k * 3 + 1, none⟩) hgr).trans c1, (hb1.cell (p := ⟨g, k * 3 + 2, none⟩) hgr).trans c2, (hb1.cell (p := ⟨g', k * 3, none⟩) hgr').trans d0, (hb1.cell (p := ⟨g', k * 3 + 1, none⟩) hgr').trans d1, (hb1.cell (p := ⟨g', k * 3 + 2, none⟩) hgr').trans d2⟩) (first | (go_at_call 71; refine (eqWindow_any _ _ _ _ _ _ _).mono ?_; rintro e w1 ⟨rfl, hb1⟩))
      clear c0 c1 c2 d0 d1 d2
      go_wp2
      go_roundw
      case rel => exact ⟨k + 1, by omega, by go_num, hbel.drew.trans (hb1.mono hbel.size)⟩
      case measure => simp [intOf]; omega
    · go_wp2
      go_ret
      exact ⟨rfl, hbel⟩

set_option maxHeartbeats 1000000 in
theorem eqFrame_own (major : Int) (a a' : Option Addr) (len cap cap' : Nat) (Z : Nat → Int) (w : World) (hl : len ≤ 1048576) (hr : Lies w a len Z) (hr' : Lies w a' len Z) :
    Calls Tryd.prog 19 #[.agg #[.int .i64 major, .slice a len cap], .agg #[.int .i64 major, .slice a' len cap']] w fun e w' => e = .returned (.bool true) ∧ Below w.heap.size w w' := by
  have HR : Hid (Lies w a len Z ∧ Lies w a' len Z) := ⟨hr, hr'⟩
  clear hr hr'
  go_enter Tryd.func19, Tryd.ntmps19
  go_wp2_with fail
  refine (eqWindowS_own a a' len cap cap' Z _ hl (HR.out.1.below (((Below.refl _ _).alloc (Nat.le_refl _) _).alloc (by simp) _)) (HR.out.2.below (((Below.refl _ _).alloc (Nat.le_refl _) _).alloc (by simp) _))).mono ?_
  rintro e w1 ⟨rfl, hb1⟩
  go_wp2
  go_ret
  exact ⟨rfl, (((Below.refl _ _).alloc (Nat.le_refl _) _).alloc (by simp) _).trans (hb1.mono (by simp; omega))⟩

/-- The first k of a list's numbers are marked. -/
structure MarkAt (w wr : World) (base g len k : Nat) : Prop where
  row : ∃ cur : Array Value, wr.heap[g]? = some (.cells cur 56 (0, 0)) ∧ len * 3 ≤ cur.size ∧ ∀ j, j < k → cur[j]? = some (.int .i64 (1 + j))
  bel : Below base w wr
  oth : ∀ k, k < w.heap.size → k ≠ g → wr.heap[k]? = w.heap[k]?
theorem MarkAt.at_ {w wr : World} {base g len k : Nat} (h : MarkAt w wr base g len k) : (∃ u : Nat → Value, ∀ j, j < len * 3 → wr.cell? ⟨g, j, none⟩ = some (u j)) ∧ ∀ j, wr.frozen? ⟨g, j, none⟩ = false := by
  obtain ⟨cur, h1, h2, h3⟩ := h.row
  refine ⟨⟨fun j => cur.getD j undef, fun j hj => ?_⟩, fun j => frozen_of_row _ _ _ _ _ h1⟩
  rw [cell_of_row _ _ _ _ _ _ h1]
  simp [Array.getD, show j < cur.size by omega]
theorem MarkAt.set {w wr : World} {base g len k : Nat} (h : MarkAt w wr base g len k) (hk : k < len * 3) (hg : base ≤ g) {m : Int} (hm : m = 1 + k) : MarkAt w (wr.setCell ⟨g, k, none⟩ (.int .i64 m)) base g len (k + 1) := by
  subst hm
  obtain ⟨cur, h1, h2, h3⟩ := h.row
  refine ⟨⟨_, heap_setCell_same _ _ _ _ _ _ h1, by simp; omega, fun j hj => ?_⟩, h.bel.setCell hg _, fun k hk hne => (Below.heap_setCell _ _ _ _ (by simpa using hne)).trans (h.oth k hk hne)⟩
  by_cases e : j = k
  · subst e
    simp [show j < cur.size by omega]
  · rw [Array.getElem?_setIfInBounds_ne (by omega)]
    exact h3 j (by omega)

set_option maxHeartbeats 1000000 in
theorem markWindowS_own (base g len cap : Nat) (w : World) (hl : len ≤ 1048576) (hg : base ≤ g) (hr : MarkAt w w base g len 0) :
    Calls Tryd.prog 48 #[.slice (some ⟨g, 0, none⟩) len cap, .int .i64 1] w fun e w' => e = .returned (.int .i64 (1 + len * 3)) ∧ MarkAt w w' base g len (len * 3) := by
  have HR : Hid (MarkAt w w base g len 0) := hr
  clear hr
  go_enter Tryd.func48, Tryd.ntmps48
  go_wp2_with fail
  go_loopw [1, 5] (fun m i wr => ∃ (k : Nat) (q : Int), k ≤ len ∧ m = .int .i64 q ∧ i = .int .i64 k ∧ Hid (q = 1 + k * 3) ∧ Hid (MarkAt w wr base g len (k * 3))) (fun _ i _ => len - (intOf i).toNat)
  case atStart => exact ⟨0, 1, Nat.zero_le _, rfl, rfl, (rfl : (1 : Int) = 1 + (0 : Nat) * 3), HR⟩
  case round =>
    clear HR
    obtain ⟨k, q, hk, rfl, rfl, HQ, HM⟩ := hrel
    by_cases hlt : k < len
    · have i0 : (0 : Int) ≤ (k : Int) := by omega
      have i1 : (k : Int) < (len : Int) := by omega
      have w1 : IntKind.i64.wrap (q + 1) = q + 1 := by have := HQ.out; rw [IntKind.wrap_i64]; omega
      have w2 : IntKind.i64.wrap (q + 1 + 1) = q + 1 + 1 := by have := HQ.out; rw [IntKind.wrap_i64]; omega
      have w3 : IntKind.i64.wrap (q + 1 + 1 + 1) = q + 1 + 1 + 1 := by have := HQ.out; rw [IntKind.wrap_i64]; omega
      obtain ⟨⟨u, hu⟩, hz⟩ := HM.out.at_
      have c0 := hu (k * 3) (by omega)
      have c1 := hu (k * 3 + 1) (by omega)
      have c2 := hu (k * 3 + 2) (by omega)
      have z0 := hz (k * 3)
      have z1 := hz (k * 3 + 1)
      have z2 := hz (k * 3 + 2)
      have HN : Hid (MarkAt w (((wr.setCell ⟨g, k * 3, none⟩ (.int .i64 q)).setCell ⟨g, k * 3 + 1, none⟩ (.int .i64 (q + 1))).setCell ⟨g, k * 3 + 2, none⟩ (.int .i64 (q + 1 + 1))) base g len (k * 3 + 3)) := by
        have := HQ.out
        exact ((HM.out.set (by omega) hg (by omega)).set (by omega) hg (by omega)).set (by omega) hg (by omega)
      clear hu hz HM
      go_wp2
      go_roundw
      case rel => exact ⟨k + 1, q + 1 + 1 + 1, by omega, rfl, by go_num, (by have := HQ.out; show q + 1 + 1 + 1 = 1 + ((k + 1 : Nat) : Int) * 3; omega), by rw [Nat.add_mul]; exact HN⟩
      case measure => simp [intOf]; omega
    · have hke : k = len := by omega
      have HKE : Hid (k = len) := hke
      have i1 : ¬ (k : Int) < (len : Int) := by omega
      clear hke
      go_wp2
      go_ret
      have e := HKE.out
      subst e
      exact ⟨congrArg (fun x => Ending.returned (.int .i64 x)) HQ.out, HM.out⟩

set_option maxHeartbeats 1000000 in
theorem heldWindowS_own (g len cap : Nat) (w : World) (hl : len ≤ 1048576) (hr : WinsAt w g len (fun j => 1 + j)) :
    Calls Tryd.prog 49 #[.slice (some ⟨g, 0, none⟩) len cap, .int .i64 1] w fun e w' => e = .returned (.int .i64 (1 + len * 3)) ∧ Below w.heap.size w w' := by
  have HR : Hid (WinsAt w g len (fun j => 1 + j)) := hr
  clear hr
  go_enter Tryd.func49, Tryd.ntmps49
  go_wp2_with fail
  go_loopw [1, 5] (fun m i wr => ∃ (k : Nat) (q : Int), k ≤ len ∧ m = .int .i64 q ∧ i = .int .i64 k ∧ Hid (q = 1 + k * 3) ∧ Below w.heap.size w wr) (fun _ i _ => len - (intOf i).toNat)
  case atStart => exact ⟨0, 1, Nat.zero_le _, rfl, rfl, (rfl : (1 : Int) = 1 + (0 : Nat) * 3), Below.refl _ _⟩
  case round =>
    obtain ⟨k, q, hk, rfl, rfl, HQ, hbel⟩ := hrel
    by_cases hlt : k < len
    · have i0 : (0 : Int) ≤ (k : Int) := by omega
      have i1 : (k : Int) < (len : Int) := by omega
      have w1 : IntKind.i64.wrap (q + 1) = q + 1 := by have := HQ.out; rw [IntKind.wrap_i64]; omega
      have w2 : IntKind.i64.wrap (q + 1 + 1) = q + 1 + 1 := by have := HQ.out; rw [IntKind.wrap_i64]; omega
      have w3 : IntKind.i64.wrap (q + 1 + 1 + 1) = q + 1 + 1 + 1 := by have := HQ.out; rw [IntKind.wrap_i64]; omega
      have hw := HR.out.of_block (hbel.block g HR.out.lt)
      have key : ∀ (j : Nat) (m : Int), j < len * 3 → m = 1 + j → wr.cell? ⟨g, j, none⟩ = some (.int .i64 m) := fun j m hj hm => by rw [hm]; exact hw.cell hj
      have c0 := key (k * 3) q (by omega) (by have := HQ.out; omega)
      have c1 := key (k * 3 + 1) (q + 1) (by omega) (by have := HQ.out; omega)
      have c2 := key (k * 3 + 2) (q + 1 + 1) (by omega) (by have := HQ.out; omega)
      clear key hw HR
      go_wp2
      go_roundw
      case rel => exact ⟨k + 1, q + 1 + 1 + 1, by omega, rfl, by go_num, (by have := HQ.out; show q + 1 + 1 + 1 = 1 + ((k + 1 : Nat) : Int) * 3; omega), hbel⟩
      case measure => simp [intOf]; omega
    · have hke : k = len := by omega
      have HKE : Hid (k = len) := hke
      have i1 : ¬ (k : Int) < (len : Int) := by omega
      clear hke
      go_wp2
      go_ret
      have e := HKE.out
      subst e
      exact ⟨congrArg (fun x => Ending.returned (.int .i64 x)) HQ.out, hbel⟩

set_option maxHeartbeats 1000000 in
theorem markFrame_own (major : Int) (base g len cap : Nat) (w : World) (hl : len ≤ 1048576) (hg : base ≤ g) (hb : base ≤ w.heap.size) (hr : MarkAt w w base g len 0) :
    Calls Tryd.prog 20 #[.agg #[.int .i64 major, .slice (some ⟨g, 0, none⟩) len cap], .int .i64 1] w fun e w' => e = .returned (.int .i64 (1 + len * 3)) ∧ MarkAt w w' base g len (len * 3) := by
  have HR : Hid (MarkAt w w base g len 0) := hr
  clear hr
  go_enter Tryd.func20, Tryd.ntmps20
  go_wp2_with fail
  refine (markWindowS_own base g len cap _ hl hg ⟨?_, Below.refl _ _, fun _ _ _ => rfl⟩).mono ?_
  · obtain ⟨cur, h1, h2, h3⟩ := HR.out.row
    exact ⟨cur, (heap_alloc_old _ _ (Array.getElem?_eq_some_iff.1 h1).1).trans h1, h2, h3⟩
  rintro e w1 ⟨rfl, h1⟩
  go_wp2
  go_ret
  exact ⟨rfl, h1.row, ((Below.refl _ _).alloc hb _).trans h1.bel, fun k hk hne => (h1.oth k (by simp; omega) hne).trans (heap_alloc_old _ _ hk)⟩

set_option maxHeartbeats 1000000 in
theorem heldFrame_own (major : Int) (g len cap : Nat) (w : World) (hl : len ≤ 1048576) (hr : WinsAt w g len (fun j => 1 + j)) :
    Calls Tryd.prog 21 #[.agg #[.int .i64 major, .slice (some ⟨g, 0, none⟩) len cap], .int .i64 1] w fun e w' => e = .returned (.int .i64 (1 + len * 3)) ∧ Below w.heap.size w w' := by
  have HR : Hid (WinsAt w g len (fun j => 1 + j)) := hr
  clear hr
  go_enter Tryd.func21, Tryd.ntmps21
  go_wp2_with fail
  refine (heldWindowS_own g len cap _ hl (HR.out.of_block (heap_alloc_old _ _ HR.out.lt))).mono ?_
  rintro e w1 ⟨rfl, h1⟩
  have hn : ¬ (1 : Int) + len * 3 < 0 := by omega
  go_wp2
  go_ret
  exact ⟨rfl, ((Below.refl _ _).alloc (Nat.le_refl _) _).trans (h1.mono (by simp))⟩

set_option maxHeartbeats 1000000 in
theorem markFrame_nil (major : Int) (a : Option Addr) (cap : Nat) (w : World) :
    Calls Tryd.prog 20 #[.agg #[.int .i64 major, .slice a 0 cap], .int .i64 1] w fun e w' => e = .returned (.int .i64 1) ∧ Below w.heap.size w w' := by
  have HM : ∀ W : World, Calls Tryd.prog 48 #[.slice a 0 cap, .int .i64 1] W fun e w' => e = .returned (.int .i64 1) ∧ w' = W := fun W => by
    go_enter Tryd.func48, Tryd.ntmps48
    go_wp2_with fail
    go_loopw [1, 5] (fun m i wr => m = .int .i64 1 ∧ i = .int .i64 0 ∧ wr = W) (fun _ _ _ => 0)
    case atStart => exact ⟨rfl, rfl, rfl⟩
    case round =>
      obtain ⟨rfl, rfl, rfl⟩ := hrel
      go_wp2
      go_ret
      exact ⟨rfl, rfl⟩
  go_enter Tryd.func20, Tryd.ntmps20
  go_wp2_with fail
  refine (HM _).mono ?_
  rintro e w1 ⟨rfl, rfl⟩
  go_wp2
  go_ret
  exact ⟨rfl, (Below.refl _ _).alloc (Nat.le_refl _) _⟩

set_option maxHeartbeats 1000000 in
theorem heldFrame_nil (major : Int) (a : Option Addr) (cap : Nat) (w : World) :
    Calls Tryd.prog 21 #[.agg #[.int .i64 major, .slice a 0 cap], .int .i64 1] w fun e w' => e = .returned (.int .i64 1) ∧ Below w.heap.size w w' := by
  have HM : ∀ W : World, Calls Tryd.prog 49 #[.slice a 0 cap, .int .i64 1] W fun e w' => e = .returned (.int .i64 1) ∧ w' = W := fun W => by
    go_enter Tryd.func49, Tryd.ntmps49
    go_wp2_with fail
    go_loopw [1, 5] (fun m i wr => m = .int .i64 1 ∧ i = .int .i64 0 ∧ wr = W) (fun _ _ _ => 0)
    case atStart => exact ⟨rfl, rfl, rfl⟩
    case round =>
      obtain ⟨rfl, rfl, rfl⟩ := hrel
      go_wp2
      go_ret
      exact ⟨rfl, rfl⟩
  go_enter Tryd.func21, Tryd.ntmps21
  go_wp2_with fail
  refine (HM _).mono ?_
  rintro e w1 ⟨rfl, rfl⟩
  go_wp2
  go_ret
  exact ⟨rfl, (Below.refl _ _).alloc (Nat.le_refl _) _⟩

end Go.Proofs.YtoiiajhgfjckhaaDoor

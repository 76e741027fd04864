/- The windows of a frame, copied one by one out of the law's type. -/
import Derived.Test.YtoiiajhgfjckhaaDoorSmall
import Derived.Deep.OwnRows
namespace Go.Proofs.YtoiiajhgfjckhaaDoor
open Go.RowKit

/-- What a slice of windows that came in is: empty, or a row of three numbers a window. -/
def Src (w : World) (a : Option Addr) (len : Nat) (Z : Nat → Int) : Prop :=
  len = 0 ∨ ∃ b off, a = some ⟨b, off, none⟩ ∧ ∀ j, j < len * 3 → w.cell? ⟨b, off + j, none⟩ = some (.int .i64 (Z j))

theorem winInfo : (Tryd.prog.info? 56).map (fun i => (i.zero, i.size, i.bytes)) = some (some (.agg #[.int .i64 0, .int .i64 0, .int .i64 0]), 3, 24) := by kernel_rfl

theorem make_wins (n : Nat) (hn : n ≤ 1048576) (w : World) :
    (Instr.makeSlice 24 (.int .i64 (n : Int)) (.int .i64 (n : Int))).run Tryd.prog w = .ok (.slice (some ⟨w.heap.size, 0, none⟩) n n) (w.alloc (.cells (madeCells #[.int .i64 0, .int .i64 0, .int .i64 0] (n * 3)) 56)) := by
  have h := winInfo
  obtain ⟨i, hi, e⟩ := Option.map_eq_some_iff.1 h
  simp only [Prod.mk.injEq] at e
  obtain ⟨e1, e2, e3⟩ := e
  have := run_make (P := Tryd.prog) w 24 56 i _ Tryd.underlying24 hi e1 .i64 .i64 n n (by omega) (by omega) (by rw [e3]; omega) (by omega)
  rw [this, e2]
  simp [Value.cells]

theorem rowIs_below {w w' : World} {b t n : Nat} {f : Nat → Value} (h : w.rowIs b t n f) (hb : Below w.heap.size w w') : w'.rowIs b t n f := h.of_block (hb.block b h.lt)

theorem row_zero (w : World) (n : Nat) : (w.alloc (.cells (madeCells #[.int .i64 0, .int .i64 0, .int .i64 0] (n * 3)) 56)).rowIs w.heap.size 56 (n * 3) (fun _ => .int .i64 0) := by
  have h := World.rowIs_alloc w (madeCells #[.int .i64 0, .int .i64 0, .int .i64 0] (n * 3)) 56 (fun _ => .int .i64 0) (fun i hi => by
    rw [size_madeCells] at hi
    have h3 : i % 3 = 0 ∨ i % 3 = 1 ∨ i % 3 = 2 := by omega
    simp only [madeCells, Array.getElem?_map]
    rw [Array.getElem?_eq_getElem (by simpa using hi)]
    rcases h3 with e | e | e <;> simp [e])
  rwa [size_madeCells] at h

/-- One window more is stored. -/
theorem row_step {wr : World} {g n k : Nat} {Z : Nat → Int} (h : wr.rowIs g 56 (n * 3) (fun j => if j < k * 3 then .int .i64 (Z j) else .int .i64 0)) :
    (((wr.setCell ⟨g, k * 3, none⟩ (.int .i64 (Z (k * 3)))).setCell ⟨g, k * 3 + 1, none⟩ (.int .i64 (Z (k * 3 + 1)))).setCell ⟨g, k * 3 + 2, none⟩ (.int .i64 (Z (k * 3 + 2)))).rowIs g 56 (n * 3) (fun j => if j < (k + 1) * 3 then .int .i64 (Z j) else .int .i64 0) := by
  refine (((h.set (k * 3) _).set (k * 3 + 1) _).set (k * 3 + 2) _).congr ?_
  intro j _
  by_cases e2 : j = k * 3 + 2
  · subst e2; rw [if_pos rfl, if_pos (by omega)]
  by_cases e1 : j = k * 3 + 1
  · subst e1; rw [if_neg (by omega), if_pos rfl, if_pos (by omega)]
  by_cases e0 : j = k * 3
  · subst e0; rw [if_neg (by omega), if_neg (by omega), if_pos rfl, if_pos (by omega)]
  simp only [e0, e1, e2, if_false]
  by_cases hj : j < k * 3
  · rw [if_pos hj, if_pos (by omega)]
  · rw [if_neg hj, if_neg (by omega)]

set_option maxHeartbeats 400000 in
theorem toWindowS_any (a : Option Addr) (len cap : Nat) (Z : Nat → Int) (w : World) (hl : len ≤ 1048576) (hs : Src w a len Z) :
    Calls Tryd.prog 46 #[.slice a len cap] w fun e w' => e = .returned (.slice (some ⟨w.heap.size, 0, none⟩) len len) ∧ w'.rowIs w.heap.size 56 (len * 3) (fun j => .int .i64 (Z j)) ∧ Below w.heap.size w w' := by
  have hmk := make_wins len hl
  go_enter Tryd.func46, Tryd.ntmps46
  go_wp2
  go_loopw [4] (fun i wr => ∃ k : Nat, k ≤ len ∧ i = .int .i64 k ∧ wr.rowIs w.heap.size 56 (len * 3) (fun j => if j < k * 3 then .int .i64 (Z j) else .int .i64 0) ∧ Below w.heap.size w wr) (fun i _ => len - (intOf i).toNat)
  case atStart => exact ⟨0, Nat.zero_le _, rfl, (row_zero w len).congr (fun i _ => by simp), by go_grown⟩
  case round =>
    obtain ⟨k, hk, rfl, hrow, hbel⟩ := hrel
    have hz := hbel.size
    by_cases hlt : k < len
    · rcases hs with hs | ⟨b, off, rfl, hc⟩
      · omega
      · have l0 := block_lt_of_cell (hc (k * 3) (by omega))
        have c0 : wr.cell? ⟨b, off + k * 3, none⟩ = some (.int .i64 (Z (k * 3))) := (hbel.cell (p := ⟨b, off + k * 3, none⟩) l0).trans (hc (k * 3) (by omega))
        have c1 : wr.cell? ⟨b, off + k * 3 + 1, none⟩ = some (.int .i64 (Z (k * 3 + 1))) := (hbel.cell (p := ⟨b, off + k * 3 + 1, none⟩) l0).trans (hc (k * 3 + 1) (by omega))
        have c2 : wr.cell? ⟨b, off + k * 3 + 2, none⟩ = some (.int .i64 (Z (k * 3 + 2))) := (hbel.cell (p := ⟨b, off + k * 3 + 2, none⟩) l0).trans (hc (k * 3 + 2) (by omega))
        clear hc
        have HR := hrow
        have HRl := hrow.lt
        go_wp2_with (go_at_call 70; refine (toWindow_any _ _ _ _).mono ?_; rintro e w1 ⟨rfl, hb1⟩; have hr1 := rowIs_below HR hb1; have d0 := hr1.cell (i := k * 3) (by omega); have d1 := hr1.cell (i := k * 3 + 1) (by omega); have d2 := hr1.cell (i := k * 3 + 2) (by omega); have f0 := hr1.frozen (k * 3); have f1 := hr1.frozen (k * 3 + 1); have f2 := hr1.frozen (k * 3 + 2); have HB := hb1; clear hb1)
        go_roundw
        case rel => exact ⟨k + 1, by omega, by go_num, row_step hr1, (((hbel.trans (HB.mono (by omega))).setCell (Nat.le_refl _) _).setCell (Nat.le_refl _) _).setCell (Nat.le_refl _) _⟩
        case measure => simp [intOf]; omega
    · go_wp2
      go_ret
      have e : k = len := by omega
      subst e
      exact ⟨rfl, hrow.congr (fun i hi => by simp [hi]), hbel⟩

theorem Src.below {w w' : World} {a : Option Addr} {len : Nat} {Z : Nat → Int} (h : Src w a len Z) (hb : Below w.heap.size w w') : Src w' a len Z := by
  rcases h with h | ⟨b, off, rfl, hc⟩
  · exact .inl h
  · refine .inr ⟨b, off, rfl, fun j hj => ?_⟩
    exact (hb.cell (p := ⟨b, off + j, none⟩) (block_lt_of_cell (hc j hj))).trans (hc j hj)

theorem bcell {W w1 : World} (hb : Below W.heap.size W w1) : (∀ b o, b < W.heap.size → w1.cell? ⟨b, o, none⟩ = W.cell? ⟨b, o, none⟩) ∧ (∀ b o, b < W.heap.size → w1.frozen? ⟨b, o, none⟩ = W.frozen? ⟨b, o, none⟩) :=
  ⟨fun b o h => hb.cell (p := ⟨b, o, none⟩) h, fun b o h => hb.frozen (p := ⟨b, o, none⟩) h⟩

set_option maxHeartbeats 400000 in
theorem toFrame_any (major : Int) (a : Option Addr) (len cap : Nat) (Z : Nat → Int) (w : World) (hl : len ≤ 1048576) (hs : Src w a len Z) :
    Calls Tryd.prog 18 #[.agg #[.int .i64 major, .slice a len cap]] w fun e w' => ∃ g, e = .returned (.agg #[.int .i64 major, .slice (some ⟨g, 0, none⟩) len len]) ∧ w.heap.size ≤ g ∧ w'.rowIs g 56 (len * 3) (fun j => .int .i64 (Z j)) ∧ Below w.heap.size w w' := by
  go_enter Tryd.func18, Tryd.ntmps18
  go_wp2_with fail
  refine (toWindowS_any a len cap Z _ hl (hs.below (by go_grown))).mono ?_
  rintro e w1 ⟨rfl, hrow, hb⟩
  obtain ⟨hc, hf⟩ := bcell hb
  have hz := hb.size
  simp only [World.size_alloc] at hc hf hz hrow hb
  have HB := hb
  have HR := hrow
  go_wp2
  refine bodyPost_ret (v := .agg #[.int .i64 major, .slice (some ⟨w.heap.size + 1 + 1 + 1, 0, none⟩) len len]) (by simp [results, Tryd.results18, go_sem, hc]) rfl ⟨_, rfl, by omega, ?_, ?_⟩
  · exact ((hrow.setOther (by simp) _).setOther (by simp; omega) _).setOther (by simp; omega) _
  · exact (((((((Below.refl _ _).alloc (Nat.le_refl _) _).alloc (by simp) _).alloc (by simp; omega) _).trans (hb.mono (by omega))).setCell (by simp; omega) _).setCell (by simp) _).setCell (by simp) _

end Go.Proofs.YtoiiajhgfjckhaaDoor

/- A frame that comes in as the law's argument, opened: its number, and the cells of its windows. -/
import Derived.Test.YtoiiajhgfjckhaaDoorRow
import Derived.ProofKit
import Derived.Lib.SmallJoins
import Derived.Deep.Strs
namespace Go.Proofs.YtoiiajhgfjckhaaDoor
open Go.RowKit Go.ChangeShapes Go.WideShapes Go.Joins Go.Deep

theorem frameCells : Tryd.prog.cellsOf 36 = 2 := by kernel_rfl
theorem winCells : Tryd.prog.cellsOf 111 = 3 := by kernel_rfl
theorem intCells : Tryd.prog.cellsOf 2 = 1 := by kernel_rfl

theorem wf_i64 {n : Int} (h : (Lit.int .i64 n).wf = true) : -9223372036854775808 ≤ n ∧ n ≤ 9223372036854775807 := by
  simp only [Lit.wf, Bool.and_eq_true, decide_eq_true_eq] at h
  exact h

set_option maxRecDepth 100000 in
/-- One window in memory: three cells, each a number. -/
theorem open_win {H : Type} {enc : TypeId × Value → H} {W : World} {n : Nat} {cs : List Value} {x : DataW H × List MemPlace} (h : DataW.trod enc Tryd.prog W 0 (fun _ => true) true n 111 cs = some x) :
    ∀ r, r < 3 → ∃ z : Int, cs[r]? = some (.int .i64 z) ∧ -9223372036854775808 ≤ z ∧ z ≤ 9223372036854775807 := by
  obtain ⟨y0, y1, y2, m, _, hlen, h0, h1, h2⟩ := trod_struct3 Tryd.underlying111 h
  rw [winCells] at hlen
  match cs, hlen with
  | [v0, v1, v2], _ =>
    simp only [intCells, List.drop_zero, List.drop_succ_cons, List.take_succ_cons, List.take_zero] at h0 h1 h2
    obtain ⟨a, e0, _, wa⟩ := DataW.trod_int Tryd.underlying2 h0
    obtain ⟨l, e1, _, wl⟩ := DataW.trod_int Tryd.underlying2 h1
    obtain ⟨q, e2, _, wq⟩ := DataW.trod_int Tryd.underlying2 h2
    simp only [List.cons.injEq, and_true] at e0 e1 e2
    subst e0 e1 e2
    intro r hr
    match r, hr with
    | 0, _ => exact ⟨a, rfl, wf_i64 wa⟩
    | 1, _ => exact ⟨l, rfl, wf_i64 wl⟩
    | 2, _ => exact ⟨q, rfl, wf_i64 wq⟩

set_option maxRecDepth 100000 in
theorem open_frame {H : Type} {enc : TypeId × Value → H} {W : World} {r : Reach} {b0 : Nat} {v : Value} {d : DataW H} {p : List MemPlace} (hv : Value.okWide Tryd.prog W r b0 36 v) (h : DataW.Trod enc Tryd.prog W 0 (fun _ => true) true 36 v d p) :
    ∃ (major : Int) (a : Option Addr) (len cap : Nat) (Z : Nat → Int), v = .agg #[.int .i64 major, .slice a len cap] ∧ len ≤ maxLen ∧ Src W a len Z ∧ ∀ j, -9223372036854775808 ≤ Z j ∧ Z j ≤ 9223372036854775807 := by
  obtain ⟨c0, c1, y0, y1, m, rfl, rfl, rfl, hy0, hy1⟩ := open_agg2 Tryd.underlying36 (by kernel_rfl) frameCells hv h
  obtain ⟨major, e0, rfl, wa⟩ := DataW.trod_int Tryd.underlying2 hy0
  simp at e0
  subst e0
  have zero : ∀ j : Nat, -9223372036854775808 ≤ ((fun _ => 0 : Nat → Int) j) ∧ ((fun _ => 0 : Nat → Int) j) ≤ 9223372036854775807 := fun _ => by show (-9223372036854775808 : Int) ≤ 0 ∧ (0 : Int) ≤ 9223372036854775807; omega
  rcases open_slice Tryd.underlying34 hy1 with ⟨e1, _⟩ | ⟨a, len, cap, q, n, D, Pl, e1, _, hl, hm, hq, _, hx⟩
  · simp at e1
    subst e1
    exact ⟨major, none, 0, 0, fun _ => 0, rfl, Nat.zero_le _, .inl rfl, zero⟩
  · simp only [List.cons.injEq, and_true] at e1
    subst e1
    simp only [if_true] at hq
    by_cases h0 : len = 0
    · subst h0
      exact ⟨major, some a, 0, cap, fun _ => 0, rfl, Nat.zero_le _, .inl rfl, zero⟩
    have key : ∀ j, j < len * 3 → ∃ z : Int, W.cell? (a.add j) = some (.int .i64 z) ∧ -9223372036854775808 ≤ z ∧ z ≤ 9223372036854775807 := by
      intro j hj
      obtain ⟨cs', k1, k2⟩ := hx (j / 3) (by omega)
      rw [winCells] at k1
      obtain ⟨_, _, kc⟩ := World.cells?_some k1
      obtain ⟨z, hz, hb⟩ := open_win k2 (j % 3) (by omega)
      refine ⟨z, ?_, hb⟩
      have := kc (j % 3) (by omega)
      rw [add_add, show j / 3 * 3 + j % 3 = j by omega] at this
      rw [this, hz]
    obtain ⟨Z, hZ⟩ := choose_lt key
    obtain ⟨b, off, spot⟩ := a
    have hspot : spot = none := by
      have := World.cell?_spot (hZ 0 (by omega)).1
      simpa [Addr.add] using this
    subst hspot
    refine ⟨major, some ⟨b, off, none⟩, len, cap, fun j => if j < len * 3 then Z j else 0, rfl, by omega, .inr ⟨b, off, rfl, fun j hj => ?_⟩, fun j => ?_⟩
    · have := (hZ j hj).1
      rw [add_plain] at this
      simp only [hj, if_true]
      exact this
    · by_cases hj : j < len * 3
      · simp only [hj, if_true]; exact (hZ j hj).2
      · simp only [hj, if_false]; exact ⟨by decide, by decide⟩

end Go.Proofs.YtoiiajhgfjckhaaDoor

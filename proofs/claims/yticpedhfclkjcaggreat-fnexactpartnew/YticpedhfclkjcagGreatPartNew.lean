/- PartNew, the program's, and its exact law. -/
import Derived.Test.YticpedhfclkjcagGreatPartOpen
import Derived.Laws.ResultCell
import Derived.Laws.Rows
namespace Go.Proofs.YticpedhfclkjcagGreat
open Go.RowKit

set_option maxHeartbeats 2000000 in
theorem implPartOk_nil (id next : Int) (w : World) : Calls Tryz.prog 9 #[partV id next] w fun e w' => e = .returned (.bool (inB id 1 6 && inB next 1 1000000000)) ∧ Below w.heap.size w w' := by
  unfold partV
  go_enter Tryz.func9, Tryz.ntmps9
  go_wp2_with fail
  refine (opened_nil id next _).mono ?_
  rintro e w1 ⟨p, rfl, hb1⟩
  have HB : Hid (Below w.heap.size w w1) := ((Below.refl _ w).alloc (Nat.le_refl _) _).trans (hb1.mono (by simp))
  clear hb1
  go_wp2
  go_ret
  exact ⟨rfl, HB.out⟩

theorem put8_heap {W : World} {g : Nat} {u0 u1 u2 u3 u4 u5 u6 u7 : Value} {t : TypeId} (h : W.heap[g]? = some (.cells #[u0, u1, u2, u3, u4, u5, u6, u7] t (0, 0))) (v0 v1 v2 v3 v4 v5 v6 v7 : Value) :
    ((((((((W.setCell ⟨g, 0, none⟩ v0).setCell ⟨g, 1, none⟩ v1).setCell ⟨g, 2, none⟩ v2).setCell ⟨g, 3, none⟩ v3).setCell ⟨g, 4, none⟩ v4).setCell ⟨g, 5, none⟩ v5).setCell ⟨g, 6, none⟩ v6).setCell ⟨g, 7, none⟩ v7).heap[g]? = some (.cells #[v0, v1, v2, v3, v4, v5, v6, v7] t (0, 0)) := by
  have h0 := heap_setCell_same _ g 0 _ _ v0 h
  have h1 := heap_setCell_same _ g 1 _ _ v1 h0
  have h2 := heap_setCell_same _ g 2 _ _ v2 h1
  have h3 := heap_setCell_same _ g 3 _ _ v3 h2
  have h4 := heap_setCell_same _ g 4 _ _ v4 h3
  have h5 := heap_setCell_same _ g 5 _ _ v5 h4
  have h6 := heap_setCell_same _ g 6 _ _ v6 h5
  have h7 := heap_setCell_same _ g 7 _ _ v7 h6
  simpa using h7
theorem put8_below {w W : World} {g : Nat} (hb : Below w.heap.size w W) (hg : w.heap.size ≤ g) (v0 v1 v2 v3 v4 v5 v6 v7 : Value) : Below w.heap.size w ((((((((W.setCell ⟨g, 0, none⟩ v0).setCell ⟨g, 1, none⟩ v1).setCell ⟨g, 2, none⟩ v2).setCell ⟨g, 3, none⟩ v3).setCell ⟨g, 4, none⟩ v4).setCell ⟨g, 5, none⟩ v5).setCell ⟨g, 6, none⟩ v6).setCell ⟨g, 7, none⟩ v7) :=
  (((((((hb.setCell hg _).setCell hg _).setCell hg _).setCell hg _).setCell hg _).setCell hg _).setCell hg _).setCell hg _
theorem partSize : (Tryz.prog.info? 39).map (·.size) = some 8 := by kernel_rfl
/-- A partition and a flag, read where they lie. -/
theorem partResults {fn : Func} {p u : Tmp} (h : fn.results = #[.cell p 39, .tmp u]) {tmps : Array Value} {w : World} {g : Nat} {v0 v1 v2 v3 v4 v5 v6 v7 : Value} (hp : tmps.getD p undef = .pointer (some ⟨g, 0, none⟩)) (hg : w.heap[g]? = some (.cells #[v0, v1, v2, v3, v4, v5, v6, v7] 39 (0, 0))) :
    (results fn tmps).run Tryz.prog w = .ok (.tuple #[.agg #[v0, v1, v2, v3, v4, v5, v6, v7], tmps.getD u undef]) w := by
  rw [results_cell_tmp h, hp]
  have := run_loadVar_row (P := Tryz.prog) w g _ 39 _ _ _ hg Tryz.underlying39 rfl partSize
  simp [asAddr, this]

set_option maxHeartbeats 2000000 in
theorem implPartNew_any (id : Int) (w : World) : Calls Tryz.prog 12 #[.int .i64 id] w fun e w' => e = .returned (.tuple #[if inB id 1 6 = true then partV id 1 else partV 0 0, .bool (inB id 1 6)]) ∧ Below w.heap.size w w' := by
  go_enter Tryz.func12, Tryz.ntmps12
  go_wp2_with fail
  refine (implPartOk_nil id 1 _).mono ?_
  rintro e w2 ⟨rfl, hb2⟩
  rw [show inB 1 1 1000000000 = true from rfl, Bool.and_true]
  simp only [World.size_alloc] at hb2
  have hR : w2.heap[w.heap.size]? = some (.cells #[.int .i64 0, .int .i64 0, .slice none 0 0, .slice none 0 0, .slice none 0 0, .slice none 0 0, .slice none 0 0, .slice none 0 0] 39 (0, 0)) := (hb2.block _ (by omega)).trans ((heap_alloc_old _ _ (by simp)).trans (heap_alloc_new _ _))
  have hP : w2.heap[w.heap.size + 1]? = some (.cells #[.int .i64 id, .int .i64 1, .slice none 0 0, .slice none 0 0, .slice none 0 0, .slice none 0 0, .slice none 0 0, .slice none 0 0] 39 (0, 0)) := (hb2.block _ (by omega)).trans (heap_alloc2_new _ _ _)
  have r0 : w2.cell? ⟨w.heap.size, 0, none⟩ = some (.int .i64 0) := by simp [World.cell?, hR]
  have z0 : w2.frozen? ⟨w.heap.size, 0, none⟩ = false := frozen_of_row _ _ _ _ _ hR
  have q0 : w2.cell? ⟨w.heap.size + 1, 0, none⟩ = some (.int .i64 id) := by simp [World.cell?, hP]
  have r1 : w2.cell? ⟨w.heap.size, 1, none⟩ = some (.int .i64 0) := by simp [World.cell?, hR]
  have z1 : w2.frozen? ⟨w.heap.size, 1, none⟩ = false := frozen_of_row _ _ _ _ _ hR
  have q1 : w2.cell? ⟨w.heap.size + 1, 1, none⟩ = some (.int .i64 1) := by simp [World.cell?, hP]
  have r2 : w2.cell? ⟨w.heap.size, 2, none⟩ = some (.slice none 0 0) := by simp [World.cell?, hR]
  have z2 : w2.frozen? ⟨w.heap.size, 2, none⟩ = false := frozen_of_row _ _ _ _ _ hR
  have q2 : w2.cell? ⟨w.heap.size + 1, 2, none⟩ = some (.slice none 0 0) := by simp [World.cell?, hP]
  have r3 : w2.cell? ⟨w.heap.size, 3, none⟩ = some (.slice none 0 0) := by simp [World.cell?, hR]
  have z3 : w2.frozen? ⟨w.heap.size, 3, none⟩ = false := frozen_of_row _ _ _ _ _ hR
  have q3 : w2.cell? ⟨w.heap.size + 1, 3, none⟩ = some (.slice none 0 0) := by simp [World.cell?, hP]
  have r4 : w2.cell? ⟨w.heap.size, 4, none⟩ = some (.slice none 0 0) := by simp [World.cell?, hR]
  have z4 : w2.frozen? ⟨w.heap.size, 4, none⟩ = false := frozen_of_row _ _ _ _ _ hR
  have q4 : w2.cell? ⟨w.heap.size + 1, 4, none⟩ = some (.slice none 0 0) := by simp [World.cell?, hP]
  have r5 : w2.cell? ⟨w.heap.size, 5, none⟩ = some (.slice none 0 0) := by simp [World.cell?, hR]
  have z5 : w2.frozen? ⟨w.heap.size, 5, none⟩ = false := frozen_of_row _ _ _ _ _ hR
  have q5 : w2.cell? ⟨w.heap.size + 1, 5, none⟩ = some (.slice none 0 0) := by simp [World.cell?, hP]
  have r6 : w2.cell? ⟨w.heap.size, 6, none⟩ = some (.slice none 0 0) := by simp [World.cell?, hR]
  have z6 : w2.frozen? ⟨w.heap.size, 6, none⟩ = false := frozen_of_row _ _ _ _ _ hR
  have q6 : w2.cell? ⟨w.heap.size + 1, 6, none⟩ = some (.slice none 0 0) := by simp [World.cell?, hP]
  have r7 : w2.cell? ⟨w.heap.size, 7, none⟩ = some (.slice none 0 0) := by simp [World.cell?, hR]
  have z7 : w2.frozen? ⟨w.heap.size, 7, none⟩ = false := frozen_of_row _ _ _ _ _ hR
  have q7 : w2.cell? ⟨w.heap.size + 1, 7, none⟩ = some (.slice none 0 0) := by simp [World.cell?, hP]
  have HR : Hid (w2.heap[w.heap.size]? = some (.cells #[.int .i64 0, .int .i64 0, .slice none 0 0, .slice none 0 0, .slice none 0 0, .slice none 0 0, .slice none 0 0, .slice none 0 0] 39 (0, 0))) := hR
  have HB : Hid (Below w.heap.size w w2) := (((Below.refl _ w).alloc (Nat.le_refl _) _).alloc (by simp) _).trans (hb2.mono (by omega))
  clear hR hP hb2
  cases hin : inB id 1 6 with
  | true =>
    go_wp2
    refine bodyPost_ret (partResults Tryz.results12 (by rfl) (put8_heap HR.out _ _ _ _ _ _ _ _)) rfl ?_
    exact ⟨rfl, put8_below HB.out (Nat.le_refl _) _ _ _ _ _ _ _ _⟩
  | false =>
    go_wp2
    all_goals
      refine bodyPost_ret (partResults Tryz.results12 (by rfl) (put8_heap HR.out _ _ _ _ _ _ _ _)) rfl ?_
      exact ⟨rfl, put8_below HB.out (Nat.le_refl _) _ _ _ _ _ _ _ _⟩

theorem cells8 {W : World} {g : Nat} {v0 v1 v2 v3 v4 v5 v6 v7 : Value} {t : TypeId} (h : W.heap[g]? = some (.cells #[v0, v1, v2, v3, v4, v5, v6, v7] t (0, 0))) :
    W.cell? ⟨g, 0, none⟩ = some v0 ∧ W.cell? ⟨g, 1, none⟩ = some v1 ∧ W.cell? ⟨g, 2, none⟩ = some v2 ∧ W.cell? ⟨g, 3, none⟩ = some v3 ∧ W.cell? ⟨g, 4, none⟩ = some v4 ∧ W.cell? ⟨g, 5, none⟩ = some v5 ∧ W.cell? ⟨g, 6, none⟩ = some v6 ∧ W.cell? ⟨g, 7, none⟩ = some v7 := by
  simp [World.cell?, h]
/-- A partition with nothing lies in block g. -/
def PartAt (W : World) (g : Nat) (i n : Int) : Prop := W.heap[g]? = some (.cells #[.int .i64 i, .int .i64 n, .slice none 0 0, .slice none 0 0, .slice none 0 0, .slice none 0 0, .slice none 0 0, .slice none 0 0] 39 (0, 0))
theorem PartAt.below {W W' : World} {g : Nat} {i n : Int} (h : PartAt W g i n) (hb : Below W.heap.size W W') : PartAt W' g i n := (hb.block g (Array.getElem?_eq_some_iff.1 h).1).trans h
theorem PartAt.alloc {W : World} {g : Nat} {i n : Int} (h : PartAt W g i n) (o : Obj) : PartAt (W.alloc o) g i n := h.below ((Below.refl _ _).alloc (Nat.le_refl _) _)

set_option maxHeartbeats 4000000 in
theorem partNewLaw_any (id : Int) (w : World) : Calls Tryz.prog 4 #[.int .i64 id] w fun e w' => e = .returned (.bool true) ∧ Below w.heap.size w w' := by
  obtain ⟨i, n, hV⟩ : ∃ i n, (if inB id 1 6 = true then partV id 1 else partV 0 0) = partV i n := by
    cases inB id 1 6 with
    | true => exact ⟨id, 1, rfl⟩
    | false => exact ⟨0, 0, rfl⟩
  have HV : Hid ((if inB id 1 6 = true then partV id 1 else partV 0 0) = partV i n) := hV
  clear hV
  go_enter Tryz.func4, Tryz.ntmps4
  go_wp2_with fail
  refine (specPartNew_any id _).mono ?_
  rintro e w1 ⟨rfl, hb1⟩
  have HB1 : Hid (Below w.heap.size w w1) := hb1
  clear hb1
  rw [HV.out]
  unfold partV
  have HP1 : Hid (PartAt (w1.alloc (.cells #[.int .i64 i, .int .i64 n, .slice none 0 0, .slice none 0 0, .slice none 0 0, .slice none 0 0, .slice none 0 0, .slice none 0 0] 39)) w1.heap.size i n ∧ Below w.heap.size w (w1.alloc (.cells #[.int .i64 i, .int .i64 n, .slice none 0 0, .slice none 0 0, .slice none 0 0, .slice none 0 0, .slice none 0 0, .slice none 0 0] 39))) := ⟨heap_alloc_new _ _, HB1.out.alloc HB1.out.size _⟩
  go_wp2_with fail
  generalize w1.alloc (.cells #[.int .i64 i, .int .i64 n, .slice none 0 0, .slice none 0 0, .slice none 0 0, .slice none 0 0, .slice none 0 0, .slice none 0 0] 39) = A1 at *
  generalize w1.heap.size = a at *
  refine (implPartNew_any id A1).mono ?_
  rintro e x1 ⟨rfl, hx1⟩
  have HP2 : Hid (PartAt (x1.alloc (.cells #[.int .i64 i, .int .i64 n, .slice none 0 0, .slice none 0 0, .slice none 0 0, .slice none 0 0, .slice none 0 0, .slice none 0 0] 39)) a i n ∧ PartAt (x1.alloc (.cells #[.int .i64 i, .int .i64 n, .slice none 0 0, .slice none 0 0, .slice none 0 0, .slice none 0 0, .slice none 0 0, .slice none 0 0] 39)) x1.heap.size i n ∧ Below w.heap.size w (x1.alloc (.cells #[.int .i64 i, .int .i64 n, .slice none 0 0, .slice none 0 0, .slice none 0 0, .slice none 0 0, .slice none 0 0, .slice none 0 0] 39))) := ⟨(HP1.out.1.below hx1).alloc _, heap_alloc_new _ _, (HP1.out.2.trans (hx1.mono HP1.out.2.size)).alloc (HP1.out.2.trans (hx1.mono HP1.out.2.size)).size _⟩
  clear hx1 HP1
  rw [HV.out]
  unfold partV
  obtain ⟨m0, m1, m2, m3, m4, m5, m6, m7⟩ := cells8 HP2.out.1
  obtain ⟨k0, k1, k2, k3, k4, k5, k6, k7⟩ := cells8 HP2.out.2.1
  go_wp2_with fail
  generalize x1.alloc (.cells #[.int .i64 i, .int .i64 n, .slice none 0 0, .slice none 0 0, .slice none 0 0, .slice none 0 0, .slice none 0 0, .slice none 0 0] 39) = A2 at *
  generalize x1.heap.size = g at *
  refine (eqPart_nil i n A2).mono ?_
  rintro e y1 ⟨rfl, hy1⟩
  have HQ1 : Hid (PartAt y1 a i n ∧ PartAt y1 g i n ∧ Below w.heap.size w y1) := ⟨HP2.out.1.below hy1, HP2.out.2.1.below hy1, HP2.out.2.2.trans (hy1.mono HP2.out.2.2.size)⟩
  clear hy1 HP2 m0 m1 m2 m3 m4 m5 m6 m7 k0 k1 k2 k3 k4 k5 k6 k7
  obtain ⟨m0, m1, m2, m3, m4, m5, m6, m7⟩ := cells8 HQ1.out.1
  obtain ⟨k0, k1, k2, k3, k4, k5, k6, k7⟩ := cells8 HQ1.out.2.1
  go_wp2_with fail
  refine (markPart_nil i n 1 y1).mono ?_
  rintro e y2 ⟨rfl, hy2⟩
  have HQ2 : Hid (PartAt y2 a i n ∧ PartAt y2 g i n ∧ Below w.heap.size w y2) := ⟨HQ1.out.1.below hy2, HQ1.out.2.1.below hy2, HQ1.out.2.2.trans (hy2.mono HQ1.out.2.2.size)⟩
  clear hy2 HQ1 m0 m1 m2 m3 m4 m5 m6 m7 k0 k1 k2 k3 k4 k5 k6 k7
  obtain ⟨m0, m1, m2, m3, m4, m5, m6, m7⟩ := cells8 HQ2.out.1
  obtain ⟨k0, k1, k2, k3, k4, k5, k6, k7⟩ := cells8 HQ2.out.2.1
  go_wp2_with fail
  refine (heldPart_nil i n y2).mono ?_
  rintro e y3 ⟨rfl, hy3⟩
  have HQ3 : Hid (PartAt y3 a i n ∧ PartAt y3 g i n ∧ Below w.heap.size w y3) := ⟨HQ2.out.1.below hy3, HQ2.out.2.1.below hy3, HQ2.out.2.2.trans (hy3.mono HQ2.out.2.2.size)⟩
  clear hy3 HQ2 m0 m1 m2 m3 m4 m5 m6 m7 k0 k1 k2 k3 k4 k5 k6 k7
  obtain ⟨m0, m1, m2, m3, m4, m5, m6, m7⟩ := cells8 HQ3.out.1
  obtain ⟨k0, k1, k2, k3, k4, k5, k6, k7⟩ := cells8 HQ3.out.2.1
  go_wp2_with fail
  refine (implPartNew_any id y3).mono ?_
  rintro e x4 ⟨rfl, hx4⟩
  have HQ4 : Hid (PartAt (x4.alloc (.cells #[.int .i64 i, .int .i64 n, .slice none 0 0, .slice none 0 0, .slice none 0 0, .slice none 0 0, .slice none 0 0, .slice none 0 0] 39)) a i n ∧ PartAt (x4.alloc (.cells #[.int .i64 i, .int .i64 n, .slice none 0 0, .slice none 0 0, .slice none 0 0, .slice none 0 0, .slice none 0 0, .slice none 0 0] 39)) g i n ∧ Below w.heap.size w (x4.alloc (.cells #[.int .i64 i, .int .i64 n, .slice none 0 0, .slice none 0 0, .slice none 0 0, .slice none 0 0, .slice none 0 0, .slice none 0 0] 39))) := ⟨(HQ3.out.1.below hx4).alloc _, (HQ3.out.2.1.below hx4).alloc _, (HQ3.out.2.2.trans (hx4.mono HQ3.out.2.2.size)).alloc (HQ3.out.2.2.trans (hx4.mono HQ3.out.2.2.size)).size _⟩
  have HH4 : Hid (PartAt (x4.alloc (.cells #[.int .i64 i, .int .i64 n, .slice none 0 0, .slice none 0 0, .slice none 0 0, .slice none 0 0, .slice none 0 0, .slice none 0 0] 39)) x4.heap.size i n) := heap_alloc_new _ _
  clear hx4 HQ3 m0 m1 m2 m3 m4 m5 m6 m7 k0 k1 k2 k3 k4 k5 k6 k7
  rw [HV.out]
  unfold partV
  obtain ⟨m0, m1, m2, m3, m4, m5, m6, m7⟩ := cells8 HQ4.out.1
  obtain ⟨k0, k1, k2, k3, k4, k5, k6, k7⟩ := cells8 HQ4.out.2.1
  obtain ⟨l0, l1, l2, l3, l4, l5, l6, l7⟩ := cells8 HH4.out
  go_wp2_with fail
  generalize x4.alloc (.cells #[.int .i64 i, .int .i64 n, .slice none 0 0, .slice none 0 0, .slice none 0 0, .slice none 0 0, .slice none 0 0, .slice none 0 0] 39) = A4 at *
  generalize x4.heap.size = h at *
  clear l0 l1 l2 l3 l4 l5 l6 l7
  refine (eqPart_nil i n A4).mono ?_
  rintro e y5 ⟨rfl, hy5⟩
  have HQ5 : Hid (PartAt y5 a i n ∧ PartAt y5 g i n ∧ Below w.heap.size w y5) := ⟨HQ4.out.1.below hy5, HQ4.out.2.1.below hy5, HQ4.out.2.2.trans (hy5.mono HQ4.out.2.2.size)⟩
  clear hy5 HQ4 m0 m1 m2 m3 m4 m5 m6 m7 k0 k1 k2 k3 k4 k5 k6 k7
  obtain ⟨m0, m1, m2, m3, m4, m5, m6, m7⟩ := cells8 HQ5.out.1
  obtain ⟨k0, k1, k2, k3, k4, k5, k6, k7⟩ := cells8 HQ5.out.2.1
  go_wp2_with fail
  refine (heldPart_nil i n y5).mono ?_
  rintro e y6 ⟨rfl, hy6⟩
  have HQ6 : Hid (PartAt y6 a i n ∧ PartAt y6 g i n ∧ Below w.heap.size w y6) := ⟨HQ5.out.1.below hy6, HQ5.out.2.1.below hy6, HQ5.out.2.2.trans (hy6.mono HQ5.out.2.2.size)⟩
  clear hy6 HQ5 m0 m1 m2 m3 m4 m5 m6 m7 k0 k1 k2 k3 k4 k5 k6 k7
  obtain ⟨m0, m1, m2, m3, m4, m5, m6, m7⟩ := cells8 HQ6.out.1
  obtain ⟨k0, k1, k2, k3, k4, k5, k6, k7⟩ := cells8 HQ6.out.2.1
  go_wp2
  go_ret
  exact ⟨rfl, HQ6.out.2.2⟩

end Go.Proofs.YticpedhfclkjcagGreat

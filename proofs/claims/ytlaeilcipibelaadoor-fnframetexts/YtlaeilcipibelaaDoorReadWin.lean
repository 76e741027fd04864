/- The text of a window, read by the program. -/
import Derived.Test.YtlaeilcipibelaaDoorSplt
namespace Go.Proofs.YtlaeilcipibelaaDoor
open Go.RowKit

/-- The text s is that of the window with these numbers. -/
def WinIs (s : ByteArray) (a l p : Int) : Prop := pcs 58 s.data.toList = [Lib.itoa a, Lib.itoa l, Lib.itoa p] ∧ (-9999999999 ≤ a ∧ a ≤ 9999999999) ∧ (-9999999999 ≤ l ∧ l ≤ 9999999999) ∧ (-9999999999 ≤ p ∧ p ≤ 9999999999)
def WinEnds (s : ByteArray) (e : Ending) : Prop :=
  (∃ a l p, e = .returned (.tuple #[.agg #[.int .i64 a, .int .i64 l, .int .i64 p], .bool true]) ∧ WinIs s a l p) ∨ (e = .returned (.tuple #[.agg #[.int .i64 0, .int .i64 0, .int .i64 0], .bool false]) ∧ ∀ a l p, ¬ WinIs s a l p)

/-- The window that the program makes lies in block g, and nothing else has turned. -/
structure WinRes (w : World) (g : Nat) (x : World) (a l p : Int) : Prop where
  row : x.heap[g]? = some (.cells #[.int .i64 a, .int .i64 l, .int .i64 p] 56 (0, 0))
  le : w.heap.size ≤ g
  bel : Below w.heap.size w x
theorem WinRes.below {w x y : World} {g : Nat} {a l p : Int} (h : WinRes w g x a l p) (hb : Below x.heap.size x y) : WinRes w g y a l p :=
  ⟨(hb.block g (Array.getElem?_eq_some_iff.1 h.row).1).trans h.row, h.le, h.bel.trans (hb.mono h.bel.size)⟩
theorem set3_heap {x : World} {g t : Nat} {v0 v1 v2 : Value} (h : x.heap[g]? = some (.cells #[v0, v1, v2] t (0, 0))) (u0 u1 u2 : Value) :
    (((x.setCell ⟨g, 0, none⟩ u0).setCell ⟨g, 1, none⟩ u1).setCell ⟨g, 2, none⟩ u2).heap[g]? = some (.cells #[u0, u1, u2] t (0, 0)) := by
  have h0 := heap_setCell_same _ g 0 _ _ u0 h
  have h1 := heap_setCell_same _ g 1 _ _ u1 h0
  have h2 := heap_setCell_same _ g 2 _ _ u2 h1
  simpa using h2
theorem set3_below {w x : World} {g : Nat} (hb : Below w.heap.size w x) (hg : w.heap.size ≤ g) (u0 u1 u2 : Value) : Below w.heap.size w (((x.setCell ⟨g, 0, none⟩ u0).setCell ⟨g, 1, none⟩ u1).setCell ⟨g, 2, none⟩ u2) :=
  ((hb.setCell hg _).setCell hg _).setCell hg _
theorem winSize : (Tryd.prog.info? 56).map (·.size) = some 3 := by kernel_rfl
/-- A window and a flag, read where they lie. -/
theorem winResults {fn : Func} {p u : Tmp} (h : fn.results = #[.cell p 56, .tmp u]) {tmps : Array Value} {w : World} {g : Nat} {v0 v1 v2 : Value} (hp : tmps.getD p undef = .pointer (some ⟨g, 0, none⟩)) (hg : w.heap[g]? = some (.cells #[v0, v1, v2] 56 (0, 0))) :
    (results fn tmps).run Tryd.prog w = .ok (.tuple #[.agg #[v0, v1, v2], tmps.getD u undef]) w := by
  rw [results_cell_tmp h, hp]
  have := run_loadVar_row (P := Tryd.prog) w g _ 56 _ _ _ hg Tryd.underlying56 rfl winSize
  simp [asAddr, this]

set_option maxHeartbeats 2000000 in
theorem readWindow_any (s : ByteArray) (w : World) (hs : s.size ≤ 1048576) (he : Env w) :
    Calls Tryd.prog 38 #[.string s] w fun e w' => WinEnds s e ∧ Below w.heap.size w w' := by
  have HE : Hid (Env (w.alloc (.cells #[.int .i64 0, .int .i64 0, .int .i64 0] 56))) := he.below ((Below.refl _ _).alloc (Nat.le_refl _) _)
  have HW : Hid (WinRes w w.heap.size (w.alloc (.cells #[.int .i64 0, .int .i64 0, .int .i64 0] 56)) 0 0 0) := ⟨heap_alloc_new _ _, Nat.le_refl _, (Below.refl _ _).alloc (Nat.le_refl _) _⟩
  clear he
  go_enter Tryd.func38, Tryd.ntmps38
  go_wp2_with fail
  generalize w.alloc (.cells #[.int .i64 0, .int .i64 0, .int .i64 0] 56) = W0 at *
  generalize hg : w.heap.size = g at *
  refine (split_any s 58 W0 hs HE.out).mono ?_
  rintro e w1 ⟨ps, hps, hpl, hpz, rfl, hpc, hpw, hb1⟩
  have HP : Hid (ps.map (·.data.toList) = pcs 58 s.data.toList ∧ ∀ p ∈ ps, p.size ≤ 1048576) := ⟨hps, hpz⟩
  have HW1 : Hid (WinRes w g w1 0 0 0 ∧ Env w1) := ⟨HW.out.below hb1, HE.out.below hb1⟩
  clear hps hpz hb1 HW HE
  have r0 : w1.cell? ⟨g, 0, none⟩ = some (.int .i64 0) := by simp [World.cell?, HW1.out.1.row]
  have r1 : w1.cell? ⟨g, 1, none⟩ = some (.int .i64 0) := by simp [World.cell?, HW1.out.1.row]
  have r2 : w1.cell? ⟨g, 2, none⟩ = some (.int .i64 0) := by simp [World.cell?, HW1.out.1.row]
  have z0 : w1.frozen? ⟨g, 0, none⟩ = false := frozen_of_row _ _ _ _ _ HW1.out.1.row
  have z1 : w1.frozen? ⟨g, 1, none⟩ = false := frozen_of_row _ _ _ _ _ HW1.out.1.row
  have z2 : w1.frozen? ⟨g, 2, none⟩ = false := frozen_of_row _ _ _ _ _ HW1.out.1.row
  by_cases h3 : ps.length = 3
  · obtain ⟨p0, p1, p2, hpe⟩ : ∃ p0 p1 p2, ps = [p0, p1, p2] := by
      match ps, h3 with
      | [a, b, c], _ => exact ⟨a, b, c, rfl⟩
    subst hpe
    have k0 := hpc 0 p0 rfl
    have k1 := hpc 1 p1 rfl
    have k2 := hpc 2 p2 rfl
    have HQ : Hid (pcs 58 s.data.toList = [p0.data.toList, p1.data.toList, p2.data.toList] ∧ p0.size ≤ 1048576 ∧ p1.size ≤ 1048576 ∧ p2.size ≤ 1048576) := ⟨HP.out.1.symm, HP.out.2 p0 (by simp), HP.out.2 p1 (by simp), HP.out.2 p2 (by simp)⟩
    have hgl : W0.heap.size < w1.heap.size := hpw
    clear hpc h3 hpl HP r0 r1 r2 z0 z1 z2
    generalize W0.heap.size = gp at *
    go_wp2_with fail
    refine (readDecimal_any p0 w1 HQ.out.2.1 HW1.out.2).mono ?_
    rintro e w2 ⟨he, hb2⟩
    obtain ⟨n0, b0, rfl, t0, f0⟩ := he.both
    have HN0 : Hid ((b0 = true → DecIs p0 n0) ∧ (b0 = false → ∀ n, ¬ DecIs p0 n)) := ⟨t0, f0⟩
    have HW2 : Hid (WinRes w g w2 0 0 0 ∧ Env w2) := ⟨HW1.out.1.below hb2, HW1.out.2.below hb2⟩
    have k1' : w2.cell? ⟨gp, 1, none⟩ = some (.string p1) := (hb2.cell (p := ⟨gp, 1, none⟩) (block_lt_of_cell k1)).trans k1
    have k2' : w2.cell? ⟨gp, 2, none⟩ = some (.string p2) := (hb2.cell (p := ⟨gp, 2, none⟩) (block_lt_of_cell k2)).trans k2
    clear he t0 f0 hb2 k0 k1 k2 HW1
    go_wp2_with fail
    refine (readDecimal_any p1 w2 HQ.out.2.2.1 HW2.out.2).mono ?_
    rintro e w3 ⟨he, hb3⟩
    obtain ⟨n1, b1, rfl, t0, f0⟩ := he.both
    have HN1 : Hid ((b1 = true → DecIs p1 n1) ∧ (b1 = false → ∀ n, ¬ DecIs p1 n)) := ⟨t0, f0⟩
    have HW3 : Hid (WinRes w g w3 0 0 0 ∧ Env w3) := ⟨HW2.out.1.below hb3, HW2.out.2.below hb3⟩
    have k2'' : w3.cell? ⟨gp, 2, none⟩ = some (.string p2) := (hb3.cell (p := ⟨gp, 2, none⟩) (block_lt_of_cell k2')).trans k2'
    clear he t0 f0 hb3 k1' k2' HW2
    go_wp2_with fail
    refine (readDecimal_any p2 w3 HQ.out.2.2.2 HW3.out.2).mono ?_
    rintro e w4 ⟨he, hb4⟩
    obtain ⟨n2, b2, rfl, t0, f0⟩ := he.both
    have HN2 : Hid ((b2 = true → DecIs p2 n2) ∧ (b2 = false → ∀ n, ¬ DecIs p2 n)) := ⟨t0, f0⟩
    have HW4 : Hid (WinRes w g w4 0 0 0 ∧ Env w4) := ⟨HW3.out.1.below hb4, HW3.out.2.below hb4⟩
    clear he t0 f0 hb4 k2'' HW3
    have r0 : w4.cell? ⟨g, 0, none⟩ = some (.int .i64 0) := by simp [World.cell?, HW4.out.1.row]
    have z0 : w4.frozen? ⟨g, 0, none⟩ = false := frozen_of_row _ _ _ _ _ HW4.out.1.row
    have r1 : w4.cell? ⟨g, 1, none⟩ = some (.int .i64 0) := by simp [World.cell?, HW4.out.1.row]
    have z1 : w4.frozen? ⟨g, 1, none⟩ = false := frozen_of_row _ _ _ _ _ HW4.out.1.row
    have r2 : w4.cell? ⟨g, 2, none⟩ = some (.int .i64 0) := by simp [World.cell?, HW4.out.1.row]
    have z2 : w4.frozen? ⟨g, 2, none⟩ = false := frozen_of_row _ _ _ _ _ HW4.out.1.row
    have hwin : ∀ a l p, WinIs s a l p → DecIs p0 a ∧ DecIs p1 l ∧ DecIs p2 p := fun a l p hw => by
      have e := hw.1
      rw [HQ.out.1] at e
      simp only [List.cons.injEq, and_true] at e
      exact ⟨⟨e.1, hw.2.1⟩, ⟨e.2.1, hw.2.2.1⟩, ⟨e.2.2, hw.2.2.2⟩⟩
    have HWN : Hid (∀ a l p, WinIs s a l p → DecIs p0 a ∧ DecIs p1 l ∧ DecIs p2 p) := hwin
    clear hwin
    cases b0 with
    | false =>
      have HZ : Hid (∀ a l p, ¬ WinIs s a l p) := fun a l p hw => HN0.out.2 rfl a (HWN.out a l p hw).1
      go_wp2
      refine bodyPost_ret (winResults Tryd.results38 (by rfl) (set3_heap HW4.out.1.row _ _ _)) rfl ?_
      exact ⟨.inr ⟨rfl, HZ.out⟩, set3_below HW4.out.1.bel HW4.out.1.le _ _ _⟩
    | true =>
      cases b1 with
      | false =>
        have HZ : Hid (∀ a l p, ¬ WinIs s a l p) := fun a l p hw => HN1.out.2 rfl l (HWN.out a l p hw).2.1
        go_wp2
        refine bodyPost_ret (winResults Tryd.results38 (by rfl) (set3_heap HW4.out.1.row _ _ _)) rfl ?_
        exact ⟨.inr ⟨rfl, HZ.out⟩, set3_below HW4.out.1.bel HW4.out.1.le _ _ _⟩
      | true =>
        cases b2 with
        | false =>
          have HZ : Hid (∀ a l p, ¬ WinIs s a l p) := fun a l p hw => HN2.out.2 rfl p (HWN.out a l p hw).2.2
          go_wp2
          refine bodyPost_ret (winResults Tryd.results38 (by rfl) (set3_heap HW4.out.1.row _ _ _)) rfl ?_
          exact ⟨.inr ⟨rfl, HZ.out⟩, set3_below HW4.out.1.bel HW4.out.1.le _ _ _⟩
        | true =>
          have HY : Hid (WinIs s n0 n1 n2) := by
            have d0 := HN0.out.1 rfl
            have d1 := HN1.out.1 rfl
            have d2 := HN2.out.1 rfl
            exact ⟨by rw [HQ.out.1, d0.1, d1.1, d2.1], d0.2, d1.2, d2.2⟩
          go_wp2
          refine bodyPost_ret (winResults Tryd.results38 (by rfl) (set3_heap HW4.out.1.row _ _ _)) rfl ?_
          exact ⟨.inl ⟨n0, n1, n2, rfl, HY.out⟩, set3_below HW4.out.1.bel HW4.out.1.le _ _ _⟩
  · have h3' : ¬ (ps.length : Int) = 3 := by omega
    have HZ : Hid (∀ a l p, ¬ WinIs s a l p) := fun a l p hw => by
      have h4 := congrArg List.length HP.out.1
      rw [hw.1, List.length_map] at h4
      simp at h4
      omega
    go_wp2
    refine bodyPost_ret (winResults Tryd.results38 (by rfl) (set3_heap HW1.out.1.row _ _ _)) rfl ?_
    exact ⟨.inr ⟨rfl, HZ.out⟩, set3_below HW1.out.1.bel HW1.out.1.le _ _ _⟩

end Go.Proofs.YtlaeilcipibelaaDoor

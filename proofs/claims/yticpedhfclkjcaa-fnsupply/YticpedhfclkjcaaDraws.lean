/- What the laws' arguments are drawn to be: a frame of at most four windows, all numbers small, and numbers. -/
import Derived.Test.YticpedhfclkjcaaFrameDraw
namespace Go.Proofs.Yticpedhfclkjcaa
open Go.RowKit
attribute [local go_sem ↓] Go.wp_at_zero Go.wp_at_succ

/-- The code's bytes lie where the slice says. -/
def Bytes (w : World) (a : Option Addr) (len : Nat) : Prop := len = 0 ∨ ∃ b off, a = some ⟨b, off, none⟩ ∧ ∀ i, i < len → ∃ v : Int, w.cell? ⟨b, off + i, none⟩ = some (.int .u8 v) ∧ 0 ≤ v ∧ v ≤ 255
theorem Bytes.below {w w' : World} {a : Option Addr} {len : Nat} (h : Bytes w a len) (hb : Below w.heap.size w w') : Bytes w' a len := by
  rcases h with h | ⟨b, off, e, hc⟩
  · exact .inl h
  · refine .inr ⟨b, off, e, fun i hi => ?_⟩
    obtain ⟨v, hv, hv'⟩ := hc i hi
    exact ⟨v, (World.cell?_of_block (w := w) (hb.block b (block_lt_of_cell hv))).trans hv, hv'⟩
theorem Bytes.buf {w : World} {a : Option Addr} {len : Nat} (h : Bytes w a len) : Buf w w.heap.size a len := by
  rcases h with h | ⟨b, off, e, hc⟩
  · exact .inl h
  · rcases Nat.eq_zero_or_pos len with h0 | h0
    · exact .inl h0
    · refine .inr ⟨b, off, e, ?_, hc⟩
      obtain ⟨v, hv, _⟩ := hc 0 h0
      have := block_lt_of_cell hv
      simp at this; omega

set_option maxHeartbeats 1000000 in
theorem open_any (a : Option Addr) (len cap : Nat) (w : World) (hb : Bytes w a len) :
    Calls Try.prog 21 #[.slice a len cap] w fun e w' => e = .returned (.pointer (some ⟨w.heap.size, 0, none⟩)) ∧ Below w.heap.size w w' ∧ Rd w.heap.size a len cap w' ∧ But w.heap.size w w' := by
  go_enter Try.func21, Try.ntmps21
  go_wp2
  go_ret
  exact ⟨rfl, (Below.refl _ _).alloc (Nat.le_refl _) _, ⟨⟨0, by omega, heap_alloc_new w _⟩, hb.buf.but ((But.refl _ _).alloc _)⟩, (But.refl _ _).alloc _⟩

/-- The frame is drawn: r the reader's block, B the block of the frame. -/
structure Drw (a : Option Addr) (len cap : Nat) (w wr : World) (B g n c : Nat) (mj : Int) (Z : Nat → Int) : Prop where
  rd : Rd (w.heap.size + 1) a len cap wr
  res : wr.heap[w.heap.size]? = some (.cells #[.int .i64 0, .slice none 0 0] 26 (0, 0))
  fr : wr.heap[B]? = some (.cells #[.int .i64 mj, .slice (some ⟨g, 0, none⟩) n c] 26 (0, 0))
  wins : WinsAt wr g n Z
  bel : Below w.heap.size w wr
  b0 : w.heap.size + 1 < B
  g0 : w.heap.size + 1 < g
  b1 : B < wr.heap.size
  g1 : g < wr.heap.size
theorem Drw.move {a : Option Addr} {len cap : Nat} {w wr w' : World} {B g n c : Nat} {mj : Int} {Z : Nat → Int} (d : Drw a len cap w wr B g n c mj Z) (hb : But (w.heap.size + 1) wr w') (rd : Rd (w.heap.size + 1) a len cap w') : Drw a len cap w w' B g n c mj Z := by
  have h1 := d.b0
  have h2 := d.g0
  have h3 := d.b1
  have h4 := d.g1
  have h5 := hb.size
  exact ⟨rd, (hb.block _ (by omega) (by omega)).trans d.res, (hb.block _ h3 (by omega)).trans d.fr, d.wins.of_block (hb.block _ h4 (by omega)), d.bel.trans (hb.below (by omega) (by omega)), h1, h2, by omega, by omega⟩
/-- The frame that is answered is stored where the result lies. -/
theorem Drw.ends {a : Option Addr} {len cap : Nat} {w wr : World} {B g n c : Nat} {mj : Int} {Z : Nat → Int} (d : Drw a len cap w wr B g n c mj Z) (x y : Value) :
    WinsAt ((wr.setCell ⟨w.heap.size, 0, none⟩ x).setCell ⟨w.heap.size, 1, none⟩ y) g n Z ∧ Below w.heap.size w ((wr.setCell ⟨w.heap.size, 0, none⟩ x).setCell ⟨w.heap.size, 1, none⟩ y) ∧ ((wr.setCell ⟨w.heap.size, 0, none⟩ x).setCell ⟨w.heap.size, 1, none⟩ y).heap[w.heap.size]? = some (.cells #[x, y] 26 (0, 0)) := by
  have h2 := d.g0
  refine ⟨d.wins.of_block ((Below.heap_setCell _ _ _ _ (by simp; omega)).trans (Below.heap_setCell _ _ _ _ (by simp; omega))), ?_, heap_setCell_same _ _ _ _ _ _ (heap_setCell_same _ _ _ _ _ _ d.res)⟩
  exact (d.bel.setCell (by simp) _).setCell (by simp) _
theorem results_cell_tmp2 {fn : Func} {p u v : Tmp} {ty : TypeId} (h : fn.results = #[.cell p ty, .tmp u, .tmp v]) (tmps : Array Value) (P : Program) (w : World) :
    (results fn tmps).run P w = ((asAddr (tmps.getD p undef)).run P w).andThen fun a w₁ => ((loadVar ty a).run P w₁).andThen fun x w₂ => .ok (.tuple #[x, tmps.getD u undef, tmps.getD v undef]) w₂ := by
  simp only [results, h]
  simp [Sem.run_bind, Result.andThen]
theorem results_cell_tmp3 {fn : Func} {p u v z : Tmp} {ty : TypeId} (h : fn.results = #[.cell p ty, .tmp u, .tmp v, .tmp z]) (tmps : Array Value) (P : Program) (w : World) :
    (results fn tmps).run P w = ((asAddr (tmps.getD p undef)).run P w).andThen fun a w₁ => ((loadVar ty a).run P w₁).andThen fun x w₂ => .ok (.tuple #[x, tmps.getD u undef, tmps.getD v undef, tmps.getD z undef]) w₂ := by
  simp only [results, h]
  simp [Sem.run_bind, Result.andThen]
/-- The results of a draw, read where they lie. -/
theorem drawn1 {fn : Func} {p u : Tmp} (h : fn.results = #[.cell p 26, .tmp u]) {tmps : Array Value} {w : World} {g : Nat} {x y : Value} (hp : tmps.getD p undef = .pointer (some ⟨g, 0, none⟩)) (hg : w.heap[g]? = some (.cells #[x, y] 26 (0, 0))) :
    (results fn tmps).run Try.prog w = .ok (.tuple #[.agg #[x, y], tmps.getD u undef]) w := by
  rw [results_cell_tmp h, hp]
  have := run_loadVar_row (P := Try.prog) w g _ 26 _ _ _ hg Try.underlying26 rfl frSize
  simp [asAddr, this]
theorem drawn2 {fn : Func} {p u v : Tmp} (h : fn.results = #[.cell p 26, .tmp u, .tmp v]) {tmps : Array Value} {w : World} {g : Nat} {x y : Value} (hp : tmps.getD p undef = .pointer (some ⟨g, 0, none⟩)) (hg : w.heap[g]? = some (.cells #[x, y] 26 (0, 0))) :
    (results fn tmps).run Try.prog w = .ok (.tuple #[.agg #[x, y], tmps.getD u undef, tmps.getD v undef]) w := by
  rw [results_cell_tmp2 h, hp]
  have := run_loadVar_row (P := Try.prog) w g _ 26 _ _ _ hg Try.underlying26 rfl frSize
  simp [asAddr, this]
theorem drawn3 {fn : Func} {p u v z : Tmp} (h : fn.results = #[.cell p 26, .tmp u, .tmp v, .tmp z]) {tmps : Array Value} {w : World} {g : Nat} {x y : Value} (hp : tmps.getD p undef = .pointer (some ⟨g, 0, none⟩)) (hg : w.heap[g]? = some (.cells #[x, y] 26 (0, 0))) :
    (results fn tmps).run Try.prog w = .ok (.tuple #[.agg #[x, y], tmps.getD u undef, tmps.getD v undef, tmps.getD z undef]) w := by
  rw [results_cell_tmp3 h, hp]
  have := run_loadVar_row (P := Try.prog) w g _ 26 _ _ _ hg Try.underlying26 rfl frSize
  simp [asAddr, this]
/-- From the start to where the frame lies in a block of its own. -/
theorem Drw.start {a : Option Addr} {len cap : Nat} {w w1 w2 : World} {g n c : Nat} {mj : Int} {Z : Nat → Int}
    (hb1 : Below (w.heap.size + 1) (w.alloc (.cells #[.int .i64 0, .slice none 0 0] 26)) w1) (hr1 : Rd (w.heap.size + 1) a len cap w1) (hb2 : But (w.heap.size + 1) w1 w2) (hr2 : Rd (w.heap.size + 1) a len cap w2) (hg : w1.heap.size ≤ g) (hw : WinsAt w2 g n Z) :
    Drw a len cap w (w2.alloc (.cells #[.int .i64 mj, .slice (some ⟨g, 0, none⟩) n c] 26)) w2.heap.size g n c mj Z := by
  have s1 := hr1.lt
  have s2 := hb2.size
  have g2 := hw.lt
  have res : w2.heap[w.heap.size]? = some (.cells #[.int .i64 0, .slice none 0 0] 26 (0, 0)) := ((hb2.block _ (by omega) (by omega)).trans (hb1.block _ (by omega))).trans (heap_alloc_new w _)
  have bel : Below w.heap.size w w2 := (((Below.refl _ _).alloc (Nat.le_refl _) _).trans (hb1.mono (by omega))).trans (hb2.below (by omega) (by omega))
  exact ⟨hr2.below ((Below.refl _ _).alloc (Nat.le_refl _) _), (heap_alloc_old _ _ (by omega)).trans res, heap_alloc_new w2 _, hw.alloc _, bel.alloc (by omega) _, by omega, by omega, by simp, by simp; omega⟩

set_option maxHeartbeats 1000000 in
theorem drawOwnerAt_any (a : Option Addr) (len cap : Nat) (w : World) (hl : len ≤ 1048576) (hb : Bytes w a len) :
    Calls Try.prog 8 #[.slice a len cap] w fun e w' => ∃ (major t : Int) (g n c : Nat) (Z : Nat → Int), e = .returned (.tuple #[.agg #[.int .i64 major, .slice (some ⟨g, 0, none⟩) n c], .int .i64 t]) ∧ n ≤ 4 ∧ w.heap.size ≤ g ∧ WinsAt w' g n Z ∧ (∀ j, -1000 ≤ Z j ∧ Z j ≤ 1000) ∧ Below w.heap.size w w' := by
  go_enter Try.func8, Try.ntmps8
  have hb0 : Bytes (w.alloc (.cells #[.int .i64 0, .slice none 0 0] 26)) a len := hb.below ((Below.refl _ _).alloc (Nat.le_refl _) _)
  go_wp2_with fail
  refine (open_any a len cap _ hb0).mono ?_
  rintro e w1 ⟨rfl, hb1, hr1, -⟩
  rw [World.size_alloc] at hb1 hr1
  go_wp2_with fail
  refine (frame_any _ a len cap w1 hl hr1).mono ?_
  rintro e w2 ⟨mj, g, n, c, Z, rfl, hn, hg, hw, hz, hb2, hr2⟩
  have HD : Hid (Drw a len cap w (w2.alloc (.cells #[.int .i64 mj, .slice (some ⟨g, 0, none⟩) n c] 26)) w2.heap.size g n c mj Z) := Drw.start hb1 hr1 hb2 hr2 hg hw
  clear hb1 hr1 hb2 hr2 hg hw hb0
  go_wp2_with fail
  generalize w2.alloc (.cells #[.int .i64 mj, .slice (some ⟨g, 0, none⟩) n c] 26) = W2 at *
  generalize w2.heap.size = B at *
  have f2 := HD.out.fr
  have b0 := HD.out.b0
  have c20 : W2.cell? ⟨B, 0, none⟩ = some (.int .i64 mj) := by simp [World.cell?, f2]
  have c21 : W2.cell? ⟨B, 1, none⟩ = some (.slice (some ⟨g, 0, none⟩) n c) := by simp [World.cell?, f2]
  have ne1 : ¬ B = w.heap.size := by omega
  have ne2 : ¬ w.heap.size = B := by omega
  clear f2
  go_region_held3 (fun w' => w'.cell? ⟨B, 0, none⟩ = some (.int .i64 mj) ∧ w'.cell? ⟨B, 1, none⟩ = some (.slice (some ⟨g, 0, none⟩) n c)) (go_keep)
    ((go_at_call 23
      refine (time_any _ a len cap _ hl ?_).mono ?_
      exact HD.out.rd
      rintro e w4 ⟨t, rfl, hb4, hr4⟩
      have HD4 : Hid (Drw a len cap w w4 B g n c mj Z) := HD.out.move hb4.undrew hr4
      clear hb4 hr4
      have f4 := HD4.out.fr
      have r4 := HD4.out.res
      have c40 : w4.cell? ⟨B, 0, none⟩ = some (.int .i64 mj) := by simp [World.cell?, f4]
      have c41 : w4.cell? ⟨B, 1, none⟩ = some (.slice (some ⟨g, 0, none⟩) n c) := by simp [World.cell?, f4]
      have d40 : w4.cell? ⟨w.heap.size, 0, none⟩ = some (.int .i64 0) := by simp [World.cell?, r4]
      have d41 : w4.cell? ⟨w.heap.size, 1, none⟩ = some (.slice none 0 0) := by simp [World.cell?, r4]
      have z40 : w4.frozen? ⟨w.heap.size, 0, none⟩ = false := frozen_of_row _ _ _ _ _ r4
      have z41 : w4.frozen? ⟨w.heap.size, 1, none⟩ = false := frozen_of_row _ _ _ _ _ r4
      clear f4 r4))
  go_wp2
  refine bodyPost_ret (drawn1 Try.results8 (by rfl) (HD4.out.ends _ _).2.2) rfl ?_
  obtain ⟨e1, e2, _⟩ := HD4.out.ends (.int .i64 mj) (.slice (some ⟨g, 0, none⟩) n c)
  exact ⟨mj, t, g, n, c, Z, rfl, hn, by have := HD4.out.g0; omega, e1, hz, e2⟩

set_option maxHeartbeats 1000000 in
theorem drawLeastSupply_any (a : Option Addr) (len cap : Nat) (w : World) (hl : len ≤ 1048576) (hb : Bytes w a len) :
    Calls Try.prog 14 #[.slice a len cap] w fun e w' => ∃ (major p t : Int) (g n c : Nat) (Z : Nat → Int), e = .returned (.tuple #[.agg #[.int .i64 major, .slice (some ⟨g, 0, none⟩) n c], .int .i64 p, .int .i64 t]) ∧ 1 ≤ p ∧ p ≤ 3 ∧ n ≤ 4 ∧ w.heap.size ≤ g ∧ WinsAt w' g n Z ∧ (∀ j, -1000 ≤ Z j ∧ Z j ≤ 1000) ∧ Below w.heap.size w w' := by
  go_enter Try.func14, Try.ntmps14
  have hb0 : Bytes (w.alloc (.cells #[.int .i64 0, .slice none 0 0] 26)) a len := hb.below ((Below.refl _ _).alloc (Nat.le_refl _) _)
  go_wp2_with fail
  refine (open_any a len cap _ hb0).mono ?_
  rintro e w1 ⟨rfl, hb1, hr1, -⟩
  rw [World.size_alloc] at hb1 hr1
  go_wp2_with fail
  refine (frame_any _ a len cap w1 hl hr1).mono ?_
  rintro e w2 ⟨mj, g, n, c, Z, rfl, hn, hg, hw, hz, hb2, hr2⟩
  have HD0 : Hid (Drw a len cap w (w2.alloc (.cells #[.int .i64 mj, .slice (some ⟨g, 0, none⟩) n c] 26)) w2.heap.size g n c mj Z) := Drw.start hb1 hr1 hb2 hr2 hg hw
  clear hb1 hr1 hb2 hr2 hg hw hb0
  go_wp2_with fail
  generalize w2.alloc (.cells #[.int .i64 mj, .slice (some ⟨g, 0, none⟩) n c] 26) = W1 at *
  generalize w2.heap.size = B at *
  refine (below_any _ a len cap 3 W1 hl (by omega) (by omega) HD0.out.rd).mono ?_
  rintro e W2 ⟨p, p0, p1, rfl, hb3, hr3⟩
  have HD : Hid (Drw a len cap w W2 B g n c mj Z) := HD0.out.move hb3 hr3
  clear hb3 hr3 HD0
  have hpw : IntKind.i64.wrap (1 + p) = 1 + p := by rw [IntKind.wrap_i64]; omega
  go_wp2_with fail
  have f2 := HD.out.fr
  have b0 := HD.out.b0
  have c20 : W2.cell? ⟨B, 0, none⟩ = some (.int .i64 mj) := by simp [World.cell?, f2]
  have c21 : W2.cell? ⟨B, 1, none⟩ = some (.slice (some ⟨g, 0, none⟩) n c) := by simp [World.cell?, f2]
  have ne1 : ¬ B = w.heap.size := by omega
  have ne2 : ¬ w.heap.size = B := by omega
  clear f2
  go_region_held3 (fun w' => w'.cell? ⟨B, 0, none⟩ = some (.int .i64 mj) ∧ w'.cell? ⟨B, 1, none⟩ = some (.slice (some ⟨g, 0, none⟩) n c)) (go_keep)
    ((go_at_call 23
      refine (time_any _ a len cap _ hl ?_).mono ?_
      exact HD.out.rd
      rintro e w4 ⟨t, rfl, hb4, hr4⟩
      have HD4 : Hid (Drw a len cap w w4 B g n c mj Z) := HD.out.move hb4.undrew hr4
      clear hb4 hr4
      have f4 := HD4.out.fr
      have r4 := HD4.out.res
      have c40 : w4.cell? ⟨B, 0, none⟩ = some (.int .i64 mj) := by simp [World.cell?, f4]
      have c41 : w4.cell? ⟨B, 1, none⟩ = some (.slice (some ⟨g, 0, none⟩) n c) := by simp [World.cell?, f4]
      have d40 : w4.cell? ⟨w.heap.size, 0, none⟩ = some (.int .i64 0) := by simp [World.cell?, r4]
      have d41 : w4.cell? ⟨w.heap.size, 1, none⟩ = some (.slice none 0 0) := by simp [World.cell?, r4]
      have z40 : w4.frozen? ⟨w.heap.size, 0, none⟩ = false := frozen_of_row _ _ _ _ _ r4
      have z41 : w4.frozen? ⟨w.heap.size, 1, none⟩ = false := frozen_of_row _ _ _ _ _ r4
      clear f4 r4))
  go_wp2
  refine bodyPost_ret (drawn2 Try.results14 (by rfl) (HD4.out.ends _ _).2.2) rfl ?_
  obtain ⟨e1, e2, _⟩ := HD4.out.ends (.int .i64 mj) (.slice (some ⟨g, 0, none⟩) n c)
  exact ⟨mj, 1 + p, t, g, n, c, Z, rfl, by omega, by omega, hn, by have := HD4.out.g0; omega, e1, hz, e2⟩

set_option maxHeartbeats 1000000 in
theorem drawNextAt_any (a : Option Addr) (len cap : Nat) (w : World) (hl : len ≤ 1048576) (hb : Bytes w a len) :
    Calls Try.prog 17 #[.slice a len cap] w fun e w' => ∃ (major p t : Int) (g n c : Nat) (Z : Nat → Int), e = .returned (.tuple #[.agg #[.int .i64 major, .slice (some ⟨g, 0, none⟩) n c], .int .i64 p, .int .i64 t]) ∧ 1 ≤ p ∧ p ≤ 3 ∧ n ≤ 4 ∧ w.heap.size ≤ g ∧ WinsAt w' g n Z ∧ (∀ j, -1000 ≤ Z j ∧ Z j ≤ 1000) ∧ Below w.heap.size w w' := by
  go_enter Try.func17, Try.ntmps17
  have hb0 : Bytes (w.alloc (.cells #[.int .i64 0, .slice none 0 0] 26)) a len := hb.below ((Below.refl _ _).alloc (Nat.le_refl _) _)
  go_wp2_with fail
  refine (drawLeastSupply_any a len cap _ hl hb0).mono ?_
  rintro e w1 ⟨mj, p, t, g, n, c, Z, rfl, p0, p1, hn, hg, hw, hz, hbel⟩
  rw [World.size_alloc] at hbel hg
  have r1 : w1.heap[w.heap.size]? = some (.cells #[.int .i64 0, .slice none 0 0] 26 (0, 0)) := (hbel.block _ (by omega)).trans (heap_alloc_new w _)
  have HX : Hid (WinsAt ((w1.setCell ⟨w.heap.size, 0, none⟩ (.int .i64 mj)).setCell ⟨w.heap.size, 1, none⟩ (.slice (some ⟨g, 0, none⟩) n c)) g n Z ∧ Below w.heap.size w ((w1.setCell ⟨w.heap.size, 0, none⟩ (.int .i64 mj)).setCell ⟨w.heap.size, 1, none⟩ (.slice (some ⟨g, 0, none⟩) n c)) ∧ ((w1.setCell ⟨w.heap.size, 0, none⟩ (.int .i64 mj)).setCell ⟨w.heap.size, 1, none⟩ (.slice (some ⟨g, 0, none⟩) n c)).heap[w.heap.size]? = some (.cells #[.int .i64 mj, .slice (some ⟨g, 0, none⟩) n c] 26 (0, 0))) := by
    refine ⟨hw.of_block ((Below.heap_setCell _ _ _ _ ?_).trans (Below.heap_setCell _ _ _ _ ?_)), ?_, heap_setCell_same _ _ _ _ _ _ (heap_setCell_same _ _ _ _ _ _ r1)⟩
    · simp; omega
    · simp; omega
    · exact (((((Below.refl _ _).alloc (Nat.le_refl _) _).trans (hbel.mono (by omega))).setCell (by simp) _).setCell (by simp) _)
  have d40 : w1.cell? ⟨w.heap.size, 0, none⟩ = some (.int .i64 0) := by simp [World.cell?, r1]
  have d41 : w1.cell? ⟨w.heap.size, 1, none⟩ = some (.slice none 0 0) := by simp [World.cell?, r1]
  have z40 : w1.frozen? ⟨w.heap.size, 0, none⟩ = false := frozen_of_row _ _ _ _ _ r1
  have z41 : w1.frozen? ⟨w.heap.size, 1, none⟩ = false := frozen_of_row _ _ _ _ _ r1
  clear r1 hw hbel hb0
  go_wp2
  refine bodyPost_ret (drawn2 Try.results17 (by rfl) HX.out.2.2) rfl ?_
  exact ⟨mj, p, t, g, n, c, Z, rfl, p0, p1, hn, by omega, HX.out.1, hz, HX.out.2.1⟩

end Go.Proofs.Yticpedhfclkjcaa

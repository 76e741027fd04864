/- The reader of draws is opened over the code; a frame is drawn. -/
import Derived.Test.YtlaeilcipibelaaDoorFrameDraw
namespace Go.Proofs.YtlaeilcipibelaaDoor
open Go.RowKit
attribute [local go_sem ↓] Go.wp_at_zero Go.wp_at_succ

/-- The code's bytes lie where the slice says. -/
def Bytes (w : World) (a : Option Addr) (len : Nat) : Prop := len = 0 ∨ ∃ b off, a = some ⟨b, off, none⟩ ∧ ∀ i, i < len → ∃ v : Int, w.cell? ⟨b, off + i, none⟩ = some (.int .u8 v) ∧ 0 ≤ v ∧ v ≤ 255
theorem Bytes.below {w w' : World} {a : Option Addr} {len : Nat} (h : Bytes w a len) (hb : Below w.heap.size w w') : Bytes w' a len := by
  rcases h with h | ⟨b, off, e, hc⟩
  · exact .inl h
  · refine .inr ⟨b, off, e, fun i hi => ?_⟩
    obtain ⟨v, hv, hv'⟩ := hc i hi
    exact ⟨v, (World.cell?_of_block (w := w) (hb.block b (block_lt_of_cell hv))).trans hv, hv'⟩
theorem Bytes.buf {w : World} {a : Option Addr} {len : Nat} (h : Bytes w a len) : Buf w w.heap.size a len := by
  rcases h with h | ⟨b, off, e, hc⟩
  · exact .inl h
  · rcases Nat.eq_zero_or_pos len with h0 | h0
    · exact .inl h0
    · refine .inr ⟨b, off, e, ?_, hc⟩
      obtain ⟨v, hv, _⟩ := hc 0 h0
      have := block_lt_of_cell hv
      simp at this; omega

set_option maxHeartbeats 1000000 in
theorem open_any (a : Option Addr) (len cap : Nat) (w : World) (hb : Bytes w a len) :
    Calls Tryd.prog 31 #[.slice a len cap] w fun e w' => e = .returned (.pointer (some ⟨w.heap.size, 0, none⟩)) ∧ Below w.heap.size w w' ∧ Rd w.heap.size a len cap w' ∧ But w.heap.size w w' := by
  go_enter Tryd.func31, Tryd.ntmps31
  go_wp2
  go_ret
  exact ⟨rfl, (Below.refl _ _).alloc (Nat.le_refl _) _, ⟨⟨0, by omega, heap_alloc_new w _⟩, hb.buf.but ((But.refl _ _).alloc _)⟩, (But.refl _ _).alloc _⟩

/-- The frame is drawn: r the reader's block, B the block of the frame. -/
structure Drw (a : Option Addr) (len cap : Nat) (w wr : World) (B g n c : Nat) (mj : Int) (Z : Nat → Int) : Prop where
  rd : Rd (w.heap.size + 1) a len cap wr
  res : wr.heap[w.heap.size]? = some (.cells #[.int .i64 0, .slice none 0 0] 26 (0, 0))
  fr : wr.heap[B]? = some (.cells #[.int .i64 mj, .slice (some ⟨g, 0, none⟩) n c] 26 (0, 0))
  wins : WinsAt wr g n Z
  bel : Below w.heap.size w wr
  b0 : w.heap.size + 1 < B
  g0 : w.heap.size + 1 < g
  b1 : B < wr.heap.size
  g1 : g < wr.heap.size
theorem Drw.move {a : Option Addr} {len cap : Nat} {w wr w' : World} {B g n c : Nat} {mj : Int} {Z : Nat → Int} (d : Drw a len cap w wr B g n c mj Z) (hb : But (w.heap.size + 1) wr w') (rd : Rd (w.heap.size + 1) a len cap w') : Drw a len cap w w' B g n c mj Z := by
  have h1 := d.b0
  have h2 := d.g0
  have h3 := d.b1
  have h4 := d.g1
  have h5 := hb.size
  exact ⟨rd, (hb.block _ (by omega) (by omega)).trans d.res, (hb.block _ h3 (by omega)).trans d.fr, d.wins.of_block (hb.block _ h4 (by omega)), d.bel.trans (hb.below (by omega) (by omega)), h1, h2, by omega, by omega⟩
/-- The frame that is answered is stored where the result lies. -/
theorem Drw.ends {a : Option Addr} {len cap : Nat} {w wr : World} {B g n c : Nat} {mj : Int} {Z : Nat → Int} (d : Drw a len cap w wr B g n c mj Z) (x y : Value) :
    WinsAt ((wr.setCell ⟨w.heap.size, 0, none⟩ x).setCell ⟨w.heap.size, 1, none⟩ y) g n Z ∧ Below w.heap.size w ((wr.setCell ⟨w.heap.size, 0, none⟩ x).setCell ⟨w.heap.size, 1, none⟩ y) ∧ ((wr.setCell ⟨w.heap.size, 0, none⟩ x).setCell ⟨w.heap.size, 1, none⟩ y).heap[w.heap.size]? = some (.cells #[x, y] 26 (0, 0)) := by
  have h2 := d.g0
  refine ⟨d.wins.of_block ((Below.heap_setCell _ _ _ _ (by simp; omega)).trans (Below.heap_setCell _ _ _ _ (by simp; omega))), ?_, heap_setCell_same _ _ _ _ _ _ (heap_setCell_same _ _ _ _ _ _ d.res)⟩
  exact (d.bel.setCell (by simp) _).setCell (by simp) _

end Go.Proofs.YtlaeilcipibelaaDoor

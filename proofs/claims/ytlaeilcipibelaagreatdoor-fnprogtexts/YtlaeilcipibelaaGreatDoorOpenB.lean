/- The reader of draws is opened over the code. -/
import Derived.Test.YtlaeilcipibelaaGreatDoorReader
namespace Go.Proofs.YtlaeilcipibelaaGreatDoor
open Go.RowKit

/-- The code's bytes lie where the slice says. -/
def Bytes (w : World) (a : Option Addr) (len : Nat) : Prop := len = 0 ∨ ∃ b off, a = some ⟨b, off, none⟩ ∧ ∀ i, i < len → ∃ v : Int, w.cell? ⟨b, off + i, none⟩ = some (.int .u8 v) ∧ 0 ≤ v ∧ v ≤ 255
theorem Bytes.below {w w' : World} {a : Option Addr} {len : Nat} (h : Bytes w a len) (hb : Below w.heap.size w w') : Bytes w' a len := by
  rcases h with h | ⟨b, off, e, hc⟩
  · exact .inl h
  · refine .inr ⟨b, off, e, fun i hi => ?_⟩
    obtain ⟨v, hv, hv'⟩ := hc i hi
    exact ⟨v, (World.cell?_of_block (w := w) (hb.block b (block_lt_of_cell hv))).trans hv, hv'⟩
theorem Bytes.buf {w : World} {a : Option Addr} {len : Nat} (h : Bytes w a len) : Buf w w.heap.size a len := by
  rcases h with h | ⟨b, off, e, hc⟩
  · exact .inl h
  · rcases Nat.eq_zero_or_pos len with h0 | h0
    · exact .inl h0
    · refine .inr ⟨b, off, e, ?_, hc⟩
      obtain ⟨v, hv, _⟩ := hc 0 h0
      have := block_lt_of_cell hv
      simp at this; omega

set_option maxHeartbeats 1000000 in
theorem open_any (a : Option Addr) (len cap : Nat) (w : World) (hb : Bytes w a len) :
    Calls Tryz.prog 13 #[.slice a len cap] w fun e w' => e = .returned (.pointer (some ⟨w.heap.size, 0, none⟩)) ∧ Below w.heap.size w w' ∧ Rd w.heap.size a len cap w' ∧ But w.heap.size w w' := by
  go_enter Tryz.func13, Tryz.ntmps13
  go_wp2
  go_ret
  exact ⟨rfl, (Below.refl _ _).alloc (Nat.le_refl _) _, ⟨⟨0, by omega, heap_alloc_new w _⟩, hb.buf.but ((But.refl _ _).alloc _)⟩, (But.refl _ _).alloc _⟩

end Go.Proofs.YtlaeilcipibelaaGreatDoor

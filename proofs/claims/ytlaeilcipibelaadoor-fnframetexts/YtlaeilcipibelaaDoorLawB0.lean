/- What the drawn laws share: whether a code is too long, and a drawn frame that stays as it is. -/
import Derived.Test.YtlaeilcipibelaaDoorBase
import Derived.Deep.QuietTactic
import Derived.BigQuiet
namespace Go.Proofs.YtlaeilcipibelaaDoor
open Go.RowKit

theorem big_any (a : Option Addr) (len cap : Nat) (w : World) : Calls Tryd.prog 8 #[.slice a len cap] w fun e w' => e = .returned (.bool (decide (1048576 < len))) ∧ w' = w := by
  by_cases h : 1048576 < len
  · have h' : (1048576 : Int) < (len : Int) := by omega
    go_enter Tryd.func8, Tryd.ntmps8
    go_wp2
    go_ret
    exact ⟨ret_bool (by simp [h]), rfl⟩
  · have h' : ¬ (1048576 : Int) < (len : Int) := by omega
    go_enter Tryd.func8, Tryd.ntmps8
    go_wp2
    go_ret
    exact ⟨ret_bool (by simp), rfl⟩

/-- The drawn frame lies in block B, its windows in block g. -/
structure Fr (w wr : World) (B g n c : Nat) (mj : Int) (Z : Nat → Int) : Prop where
  fr : wr.heap[B]? = some (.cells #[.int .i64 mj, .slice (some ⟨g, 0, none⟩) n c] 26 (0, 0))
  wins : WinsAt wr g n Z
  bel : Below w.heap.size w wr
theorem Fr.start {w w1 : World} {g n c : Nat} {mj : Int} {Z : Nat → Int} (hw : WinsAt w1 g n Z) (hb : Below w.heap.size w w1) : Fr w (w1.alloc (.cells #[.int .i64 mj, .slice (some ⟨g, 0, none⟩) n c] 26)) w1.heap.size g n c mj Z :=
  ⟨heap_alloc_new w1 _, hw.alloc _, hb.alloc hb.size _⟩
theorem Fr.below {w wr w' : World} {B g n c : Nat} {mj : Int} {Z : Nat → Int} (h : Fr w wr B g n c mj Z) (hb : Below wr.heap.size wr w') : Fr w w' B g n c mj Z :=
  ⟨(hb.block _ (Array.getElem?_eq_some_iff.1 h.fr).1).trans h.fr, h.wins.of_block (hb.block _ h.wins.lt), h.bel.trans (hb.mono h.bel.size)⟩
theorem Fr.drewN {w wr : World} {B g n c : Nat} {mj : Int} {Z : Nat → Int} (h : Fr w wr B g n c mj Z) (m : Nat) : Fr w (wr.drewN m) B g n c mj Z := ⟨h.fr, h.wins.of_block rfl, h.bel.os, h.bel.tape, h.bel.output, h.bel.size, h.bel.block⟩
theorem Fr.m {w wr : World} {B g n c : Nat} {mj : Int} {Z : Nat → Int} (h : Fr w wr B g n c mj Z) : wr.cell? ⟨B, 0, none⟩ = some (.int .i64 mj) := by have := h.fr; simp [World.cell?, this]
theorem Fr.s {w wr : World} {B g n c : Nat} {mj : Int} {Z : Nat → Int} (h : Fr w wr B g n c mj Z) : wr.cell? ⟨B, 1, none⟩ = some (.slice (some ⟨g, 0, none⟩) n c) := by have := h.fr; simp [World.cell?, this]
theorem wide {Z : Nat → Int} (hz : ∀ j, -1000 ≤ Z j ∧ Z j ≤ 1000) : ∀ j, -9223372036854775808 ≤ Z j ∧ Z j ≤ 9223372036854775807 := fun j => by have := hz j; omega

end Go.Proofs.YtlaeilcipibelaaDoor

/- Lists of ops in memory. -/
import Derived.Test.YtlaeilcipibelaaGreatDoorOpRd
import Derived.Test.YtlaeilcipibelaaGreatDoorProgSpec
namespace Go.Proofs.YtlaeilcipibelaaGreatDoor
open Go.RowKit

def kOf (os : List OpD) (i : Nat) : Int := (os[i]?.getD (0, 0, 0, ⟨#[]⟩)).1
def nOf (os : List OpD) (i : Nat) : Int := (os[i]?.getD (0, 0, 0, ⟨#[]⟩)).2.1
def mOf (os : List OpD) (i : Nat) : Int := (os[i]?.getD (0, 0, 0, ⟨#[]⟩)).2.2.1
def sOf (os : List OpD) (i : Nat) : ByteArray := (os[i]?.getD (0, 0, 0, ⟨#[]⟩)).2.2.2
/-- The ops of a list lie in block g. -/
def ListAt (w : World) (g : Nat) (os : List OpD) : Prop := OpsAt w g os.length (kOf os) (nOf os) (mOf os) (sOf os)
/-- A list of ops, wherever it lies; a list of none may lie nowhere. -/
def LiesO (w : World) (a : Option Addr) (os : List OpD) : Prop := 0 < os.length → ∃ g, a = some ⟨g, 0, none⟩ ∧ ListAt w g os
theorem LiesO.below {w w' : World} {a : Option Addr} {os : List OpD} (h : LiesO w a os) (hb : Below w.heap.size w w') : LiesO w' a os := fun hl => by
  obtain ⟨g, rfl, hw⟩ := h hl
  exact ⟨g, rfl, OpsAt.below hw hb⟩
theorem LiesO.low {w w' : World} {a : Option Addr} {base : Nat} {os : List OpD} (h : LiesO w a os) (ha : ∀ q, a = some q → q.block < base) (hb : Below base w w') : LiesO w' a os := fun hl => by
  obtain ⟨g, rfl, hw⟩ := h hl
  exact ⟨g, rfl, OpsAt.of_block hw (hb.block g (ha _ rfl))⟩

end Go.Proofs.YtlaeilcipibelaaGreatDoor

/- The table of powers of ten, which stays. -/
import Derived.Test.YtlaeilcipibelaaGreatDoorDec
import Derived.Lib.SmallJoins
namespace Go.Proofs.YtlaeilcipibelaaGreatDoor
open Go.RowKit

/-- The table of powers that the numbers' texts are made by. -/
def Pow (w : World) : Prop := Lib.TabIs Tryz.prog w "internal/strconv.uint64pow10" .u64 Lib.pow10Tab
theorem Pow.below {B : Nat} {w w' : World} (h : Pow w) (hb : Below B w w') (hB : w.heap.size ≤ B) : Pow w' := Go.Joins.tab_stays (P := Tryz.prog) (g := 2) (by kernel_rfl) h hb hB

end Go.Proofs.YtlaeilcipibelaaGreatDoor

/- The table of powers of ten, which stays. -/
import Derived.Test.YtlaeilcipibelaaDoorDec
import Derived.Lib.SmallJoins
namespace Go.Proofs.YtlaeilcipibelaaDoor
open Go.RowKit

/-- The table of powers that the numbers' texts are made by. -/
def Pow (w : World) : Prop := Lib.TabIs Tryd.prog w "internal/strconv.uint64pow10" .u64 Lib.pow10Tab
theorem Pow.below {B : Nat} {w w' : World} (h : Pow w) (hb : Below B w w') (hB : w.heap.size ≤ B) : Pow w' := Go.Joins.tab_stays (P := Tryd.prog) (g := 1) (by kernel_rfl) h hb hB

end Go.Proofs.YtlaeilcipibelaaDoor

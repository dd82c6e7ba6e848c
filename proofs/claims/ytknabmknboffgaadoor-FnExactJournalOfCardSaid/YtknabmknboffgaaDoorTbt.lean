/- The table of powers of ten. No statement is proved here. -/
import Derived.Test.YtknabmknboffgaaDoorTbl
import Derived.Lib.LaidTab
import Derived.Lib.SmallJoins
import Derived.LaidMore
import Derived.LaidLaws
import Derived.ProofKit
namespace Go.Proofs.YtknabmknboffgaaDoor
open Go Go.RowKit
/-- the table of powers of ten -/
def T10 (w : World) : Prop := Lib.TabIs Tryd.prog w "internal/strconv.uint64pow10" .u64 Lib.pow10Tab
theorem T10.below {w w' : World} (h : T10 w) (hb : Below w.heap.size w w') : T10 w' := Go.Joins.tab_stays (by kernel_rfl : Tryd.prog.globalNamed "internal/strconv.uint64pow10" = some 4) h hb (Nat.le_refl _)
end Go.Proofs.YtknabmknboffgaaDoor

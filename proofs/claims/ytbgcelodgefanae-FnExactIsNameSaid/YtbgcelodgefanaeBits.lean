/- Contracts of the functions on bits of numbers. No statement is proved here. -/
import Derived.Test.YtbgcelodgefanaeFloat
import Derived.Test.YtbgcelodgefanaeChecked
import Derived.Outline
namespace Go.Proofs.Ytbgcelodgefanae
open Go Go.RowKit
/-- the answer of FromBits -/
def fromBits (n : Int) : Nat := if 0 ≤ n ∧ n ≤ 4294967295 then n.toNat else 0
end Go.Proofs.Ytbgcelodgefanae

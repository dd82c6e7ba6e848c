/- A list of numbers out of a text: the program. No statement is proved here. -/
import Derived.Test.YtknabmknboffgaaDoorNums
namespace Go.Proofs.YtknabmknboffgaaDoor
open Go Go.RowKit
end Go.Proofs.YtknabmknboffgaaDoor

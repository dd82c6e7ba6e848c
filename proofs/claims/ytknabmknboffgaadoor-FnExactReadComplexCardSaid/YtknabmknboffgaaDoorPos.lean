/- Numbers greater than nothing, and bounds of integers. No statement is proved here. -/
import Derived.Test.YtknabmknboffgaaDoorRot
namespace Go.Proofs.YtknabmknboffgaaDoor
open Go Go.RowKit
end Go.Proofs.YtknabmknboffgaaDoor

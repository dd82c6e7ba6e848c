/- SolidityAt, TipShareAt: the specification's side. No statement is proved here. -/
import Derived.Test.YtahbcpjipomcgaaGreatSolL
namespace Go.Proofs.YtahbcpjipomcgaaGreat
open Go Go.RowKit
end Go.Proofs.YtahbcpjipomcgaaGreat

/- Two numbers, if both are finite; numbers, if they are. No statement is proved here. -/
import Derived.Test.YtpmjikchlofebaaAir
namespace Go.Proofs.Ytpmjikchlofebaa
open Go Go.RowKit
/-- two numbers, if both are finite -/
def both1 (x y : Nat) : Nat := if fin .f32 x && fin .f32 y then x else 0
def both2 (x y : Nat) : Nat := if fin .f32 x && fin .f32 y then y else 0
end Go.Proofs.Ytpmjikchlofebaa

/- Contracts of the sums. No statement is proved here. -/
import Derived.Test.YtknabmknboffgaaDoorSlice
namespace Go.Proofs.YtknabmknboffgaaDoor
open Go Go.RowKit

theorem canon_zero : canon .f32 0 = 0 := by decide +kernel
def sumK (xs : List Nat) : Nat → Nat
  | 0 => 0
  | k + 1 => fop .add .f32 (sumK xs k) (canon .f32 (xs.getD k 0))
def dotK (xs ys : List Nat) : Nat → Nat
  | 0 => 0
  | k + 1 => fop .add .f32 (dotK xs ys k) (fop .mul .f32 (canon .f32 (xs.getD k 0)) (canon .f32 (ys.getD k 0)))
end Go.Proofs.YtknabmknboffgaaDoor

/- Areas below lifts. No statement is proved here. -/
import Derived.Test.YtknabmknboffgaaDoorVal
import Derived.Test.YtknabmknboffgaaDoorSums
namespace Go.Proofs.YtknabmknboffgaaDoor
open Go Go.RowKit

/-- a number if it is finite -/
def onlyN (x : Nat) : Nat := if fin .f32 x then x else 0
theorem canon_onlyN (x : Nat) : canon .f32 (onlyN x) = onlyN (canon .f32 x) := by
  unfold onlyN
  rw [fin_canon]
  cases h : fin .f32 x
  · exact canon_zero
  · rfl
def areaAt (a l : List Nat) (k : Nat) : Nat :=
  fop .mul .f32 (fop .mul .f32 (canon .f32 1056964608) (fop .add .f32 (canon .f32 (l.getD k 0)) (canon .f32 (l.getD (k + 1) 0)))) (fop .sub .f32 (canon .f32 (a.getD (k + 1) 0)) (canon .f32 (a.getD k 0)))
def area (a l : List Nat) : Nat → Nat
  | 0 => 0
  | k + 1 => fop .add .f32 (area a l k) (areaAt a l k)
def areaO (a l d : List Nat) : Bool := validP a l d && fin .f32 (area a l (a.length - 1))
def areaR (a l d : List Nat) : Nat := if validP a l d then onlyN (area a l (a.length - 1)) else 0
end Go.Proofs.YtknabmknboffgaaDoor

/- The product of two numbers, whichever stands first. No statement is proved here. -/
import Derived.Test.YtiiiigldpbomkaaFloat
namespace Go.Proofs.Ytiiiigldpbomkaa
open Go Go.RowKit
theorem product_comm (x y : Ieee.Datum) : x.product y = y.product x := by
  cases x <;> cases y <;> simp [Ieee.Datum.product, Bool.xor_comm, Int.add_comm, Nat.mul_comm]
theorem fop_mul_comm (k : FloatKind) (x y : Nat) : fop .mul k x y = fop .mul k y x := by
  unfold fop floatBits Ieee.Format.mul
  simp only [product_comm]
end Go.Proofs.Ytiiiigldpbomkaa

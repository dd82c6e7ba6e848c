/- Contracts of the sums. No statement is proved here. -/
import Derived.Test.YtahbcpjipomcgaaGreatSlice
namespace Go.Proofs.YtahbcpjipomcgaaGreat
open Go Go.RowKit

theorem canon_zero : canon .f32 0 = 0 := by decide +kernel
def sumK (xs : List Nat) : Nat → Nat
  | 0 => 0
  | k + 1 => fop .add .f32 (sumK xs k) (canon .f32 (xs.getD k 0))
def dotK (xs ys : List Nat) : Nat → Nat
  | 0 => 0
  | k + 1 => fop .add .f32 (dotK xs ys k) (fop .mul .f32 (canon .f32 (xs.getD k 0)) (canon .f32 (ys.getD k 0)))
theorem i_mulNumbers (a b : Nat) (w : World) :
    Calls Tryz.prog 78 #[.float .f32 a, .float .f32 b] w fun e w' => e = .returned (.float .f32 (fopV .mul .f32 a b w)) ∧ w' = w.drewN (fopN .mul .f32 a b) := by
  go_enter Tryz.func78, Tryz.ntmps78
  go_wp2
  go_ret
  exact ⟨rfl, rfl⟩
end Go.Proofs.YtahbcpjipomcgaaGreat

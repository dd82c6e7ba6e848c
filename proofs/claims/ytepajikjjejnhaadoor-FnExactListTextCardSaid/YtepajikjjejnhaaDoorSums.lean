/- Contracts of the sums. No statement is proved here. -/
import Derived.Test.YtepajikjjejnhaaDoorSlice
namespace Go.Proofs.YtepajikjjejnhaaDoor
open Go Go.RowKit

theorem canon_zero : canon .f32 0 = 0 := by decide +kernel
def sumK (xs : List Nat) : Nat → Nat
  | 0 => 0
  | k + 1 => fop .add .f32 (sumK xs k) (canon .f32 (xs.getD k 0))
def dotK (xs ys : List Nat) : Nat → Nat
  | 0 => 0
  | k + 1 => fop .add .f32 (dotK xs ys k) (fop .mul .f32 (canon .f32 (xs.getD k 0)) (canon .f32 (ys.getD k 0)))
theorem s_l01Few_yes (A : Option Addr) (n cap : Nat) (w : World) (h : n ≤ 256) :
    Calls Tryd.prog 31 #[.slice A n cap] w fun e w' => e = .returned (.bool true) ∧ w' = w := by
  go_enter Tryd.func31, Tryd.ntmps31
  go_wp2
  go_ret
  exact ⟨by simp; omega, rfl⟩
theorem s_l01Few_no (A : Option Addr) (n cap : Nat) (w : World) (h : 256 < n) :
    Calls Tryd.prog 31 #[.slice A n cap] w fun e w' => e = .returned (.bool false) ∧ w' = w := by
  go_enter Tryd.func31, Tryd.ntmps31
  go_wp2
  go_ret
  exact ⟨by simp; omega, rfl⟩
end Go.Proofs.YtepajikjjejnhaaDoor

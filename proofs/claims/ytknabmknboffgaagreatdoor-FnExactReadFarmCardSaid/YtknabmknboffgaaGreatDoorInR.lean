/- Numbers that texts may have. No statement is proved here. -/
import Derived.Test.YtknabmknboffgaaGreatDoorPos
namespace Go.Proofs.YtknabmknboffgaaGreatDoor
open Go Go.RowKit
/-- a number that texts may have -/
def inR (x : Int) : Bool := decide (-1000000000000000 ≤ x) && decide (x ≤ 1000000000000000)
theorem inR_bd {x : Int} (h : inR x = true) : -1000000000000000 ≤ x ∧ x ≤ 1000000000000000 := by
  unfold inR at h
  simp only [Bool.and_eq_true, decide_eq_true_eq] at h
  exact h
theorem i_isValue (x : Int) (w : World) :
    Calls Tryz.prog 94 #[.int .i64 x] w fun e w' => e = .returned (.bool (inR x)) ∧ w' = w := by
  have HR : Hid (inR x = (decide (-1000000000000000 ≤ x) && decide (x ≤ 1000000000000000))) := rfl
  generalize inR x = r at HR ⊢
  cases h : decide (-1000000000000000 ≤ x)
  all_goals
    rw [h] at HR
    go_enter Tryz.func94, Tryz.ntmps94
    go_wp2
    go_ret
    exact ⟨by rw [HR.out]; simp_all, rfl⟩
end Go.Proofs.YtknabmknboffgaaGreatDoor

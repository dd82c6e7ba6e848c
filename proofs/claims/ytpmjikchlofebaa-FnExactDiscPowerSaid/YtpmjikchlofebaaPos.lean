/- Numbers greater than nothing, and bounds of integers. No statement is proved here. -/
import Derived.Test.YtpmjikchlofebaaRot
namespace Go.Proofs.Ytpmjikchlofebaa
open Go Go.RowKit
theorem i_isPositive (x : Nat) (w : World) :
    Calls Try.prog 65 #[.float .f32 x] w fun e w' => ∃ n, e = .returned (.bool (posi x)) ∧ w' = w.drewN n := by
  cases h : fin .f32 x
  all_goals
    go_enter Try.func65, Try.ntmps65
    go_wp2_with fail
    refine (i_IsFinite _ _).mono ?_
    rintro e w' ⟨n, rfl, rfl⟩
    rw [h]
    go_wp2
    go_ret
    exact ⟨_, by simp [posi, h, gtr32], rfl⟩
theorem s_l02Above (x : Nat) (w : World) :
    Calls Try.prog 56 #[.float .f32 x] w fun e w' => ∃ n, e = .returned (.bool (posi x)) ∧ w' = w.drewN n := by
  cases h : fin .f32 x
  all_goals
    go_enter Try.func56, Try.ntmps56
    go_wp2_with fail
    refine (s_l01Finite _ _).mono ?_
    rintro e w' ⟨n, rfl, rfl⟩
    rw [h]
    go_wp2
    go_ret
    exact ⟨_, by simp [posi, h, gtr32], rfl⟩
theorem s_l00In (x lo hi : Int) (w : World) :
    Calls Try.prog 58 #[.int .i64 x, .int .i64 lo, .int .i64 hi] w fun e w' => e = .returned (.bool (decide (lo ≤ x) && decide (x ≤ hi))) ∧ w' = w := by
  cases h : decide (lo ≤ x)
  all_goals
    go_enter Try.func58, Try.ntmps58
    go_wp2
    go_ret
    exact ⟨by simp_all, rfl⟩
end Go.Proofs.Ytpmjikchlofebaa

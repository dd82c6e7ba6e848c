/- Air that comes apart: StepApart. No statement is proved here. -/
import Derived.Test.YtdjnooekjjjliaaProf
namespace Go.Proofs.Ytdjnooekjjjliaa
open Go Go.RowKit

def edges (up down : Nat) : Bool := fin .f32 up && (fin .f32 down && leq32 down up)
def stepO (x up down : Nat) : Bool := fin .f32 x && edges up down
def apartB (a : Bool) (x up down : Nat) : Bool := gtr32 x up || (a && geq32 x down)
def stepR (a : Bool) (x up down : Nat) : Bool := stepO x up down && apartB a x up down
theorem i_areBounds (up down : Nat) (w : World) :
    Calls Try.prog 28 #[.float .f32 up, .float .f32 down] w fun e w' => ∃ n, e = .returned (.bool (edges up down)) ∧ w' = w.drewN n := by
  cases h1 : fin .f32 up
  · go_enter Try.func28, Try.ntmps28
    go_wp2_with fail
    refine (i_IsFinite _ _).mono ?_
    rintro e w' ⟨n, rfl, rfl⟩
    rw [h1]
    go_wp2
    go_ret
    exact ⟨_, by simp [edges, h1], rfl⟩
  · cases h2 : fin .f32 down
    · go_enter Try.func28, Try.ntmps28
      go_wp2_with fail
      refine (i_IsFinite _ _).mono ?_
      rintro e w' ⟨n, rfl, rfl⟩
      rw [h1]
      go_wp2_with fail
      refine (i_IsFinite _ _).mono ?_
      rintro e w' ⟨m, rfl, rfl⟩
      rw [h2]
      go_wp2
      go_ret
      exact ⟨_, by simp [edges, h1, h2], rfl⟩
    · go_enter Try.func28, Try.ntmps28
      go_wp2_with fail
      refine (i_IsFinite _ _).mono ?_
      rintro e w' ⟨n, rfl, rfl⟩
      rw [h1]
      go_wp2_with fail
      refine (i_IsFinite _ _).mono ?_
      rintro e w' ⟨m, rfl, rfl⟩
      rw [h2]
      go_wp2
      go_ret
      exact ⟨_, by simp [edges, leq32, h1, h2], rfl⟩
theorem s_l02Edges (up down : Nat) (w : World) :
    Calls Try.prog 25 #[.float .f32 up, .float .f32 down] w fun e w' => ∃ n, e = .returned (.bool (edges up down)) ∧ w' = w.drewN n := by
  cases h1 : fin .f32 up
  · go_enter Try.func25, Try.ntmps25
    go_wp2_with fail
    refine (s_l01Finite _ _).mono ?_
    rintro e w' ⟨n, rfl, rfl⟩
    rw [h1]
    go_wp2
    go_ret
    exact ⟨_, by simp [edges, h1], rfl⟩
  · cases h2 : fin .f32 down
    · go_enter Try.func25, Try.ntmps25
      go_wp2_with fail
      refine (s_l01Finite _ _).mono ?_
      rintro e w' ⟨n, rfl, rfl⟩
      rw [h1]
      go_wp2_with fail
      refine (s_l01Finite _ _).mono ?_
      rintro e w' ⟨m, rfl, rfl⟩
      rw [h2]
      go_wp2
      go_ret
      exact ⟨_, by simp [edges, h1, h2], rfl⟩
    · go_enter Try.func25, Try.ntmps25
      go_wp2_with fail
      refine (s_l01Finite _ _).mono ?_
      rintro e w' ⟨n, rfl, rfl⟩
      rw [h1]
      go_wp2_with fail
      refine (s_l01Finite _ _).mono ?_
      rintro e w' ⟨m, rfl, rfl⟩
      rw [h2]
      go_wp2
      go_ret
      exact ⟨_, by simp [edges, leq32, h1, h2], rfl⟩
theorem s_l02Apart (a : Bool) (x up down : Nat) (w : World) :
    Calls Try.prog 27 #[.bool a, .float .f32 x, .float .f32 up, .float .f32 down] w fun e w' => e = .returned (.bool (apartB a x up down)) ∧ w' = w := by
  cases h1 : FloatKind.f32.format.order x up == some .gt <;> cases a
  all_goals
    go_enter Try.func27, Try.ntmps27
    go_wp2
    go_ret
    exact ⟨by simp [apartB, gtr32, geq32, h1], rfl⟩
theorem i_StepApart (a : Bool) (x up down : Nat) (w : World) :
    Calls Try.prog 29 #[.bool a, .float .f32 x, .float .f32 up, .float .f32 down] w fun e w' => ∃ n, e = .returned (.tuple #[.bool (stepR a x up down), .bool (stepO x up down)]) ∧ w' = w.drewN n := by
  cases h1 : fin .f32 x
  · go_enter Try.func29, Try.ntmps29
    go_wp2_with fail
    refine (i_IsFinite _ _).mono ?_
    rintro e w' ⟨n, rfl, rfl⟩
    rw [h1]
    go_wp2
    go_ret2
    exact ⟨_, by simp [stepR, stepO, *], rfl⟩
  · cases h2 : edges up down
    · go_enter Try.func29, Try.ntmps29
      go_wp2_with fail
      refine (i_IsFinite _ _).mono ?_
      rintro e w' ⟨n, rfl, rfl⟩
      rw [h1]
      go_wp2_with fail
      refine (i_areBounds _ _ _).mono ?_
      rintro e w' ⟨m, rfl, rfl⟩
      rw [h2]
      go_wp2
      go_ret2
      exact ⟨_, by simp [stepR, stepO, *], rfl⟩
    · cases h3 : FloatKind.f32.format.order x up == some .gt <;> cases a
      all_goals
        go_enter Try.func29, Try.ntmps29
        go_wp2_with fail
        refine (i_IsFinite _ _).mono ?_
        rintro e w' ⟨n, rfl, rfl⟩
        rw [h1]
        go_wp2_with fail
        refine (i_areBounds _ _ _).mono ?_
        rintro e w' ⟨m, rfl, rfl⟩
        rw [h2]
        go_wp2
        go_ret2
        exact ⟨_, by simp [stepR, stepO, h1, h2, apartB, gtr32, geq32, h3], rfl⟩
end Go.Proofs.Ytdjnooekjjjliaa

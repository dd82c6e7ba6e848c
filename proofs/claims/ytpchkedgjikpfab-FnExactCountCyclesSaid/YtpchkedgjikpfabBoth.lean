/- Two numbers, if both are finite; numbers, if they are. No statement is proved here. -/
import Derived.Test.YtpchkedgjikpfabAir
namespace Go.Proofs.Ytpchkedgjikpfab
open Go Go.RowKit
/-- two numbers, if both are finite -/
def both1 (x y : Nat) : Nat := if fin .f32 x && fin .f32 y then x else 0
def both2 (x y : Nat) : Nat := if fin .f32 x && fin .f32 y then y else 0
theorem i_bothFinite (x y X Y : Nat) (w : World) (hx : canon .f32 x = X) (hy : canon .f32 y = Y) :
    Calls Try.prog 91 #[.float .f32 x, .float .f32 y] w fun e w' => ∃ r t n, e = .returned (.tuple #[.float .f32 r, .float .f32 t, .bool (fin .f32 X && fin .f32 Y)]) ∧ canon .f32 r = both1 X Y ∧ canon .f32 t = both2 X Y ∧ w' = w.drewN n := by
  subst hx hy
  unfold both1 both2
  rw [fin_canon, fin_canon]
  cases h : fin .f32 x
  · go_enter Try.func91, Try.ntmps91
    go_wp2_with fail
    refine (i_IsFinite _ _).mono ?_
    rintro e w' ⟨n, rfl, rfl⟩
    rw [h]
    go_wp2
    refine bodyPost_ret (results_tmp3 rfl _ _ _) rfl ?_
    first | exact ⟨_, _, _, rfl, canon_zero, canon_zero, rfl⟩ | exact ⟨_, _, rfl, canon_zero, canon_zero, _, rfl⟩
  · cases h2 : fin .f32 y
    all_goals
      go_enter Try.func91, Try.ntmps91
      go_wp2_with fail
      refine (i_IsFinite _ _).mono ?_
      rintro e w' ⟨n, rfl, rfl⟩
      rw [h]
      go_wp2_with fail
      refine (i_IsFinite _ _).mono ?_
      rintro e w' ⟨n2, rfl, rfl⟩
      rw [h2]
      go_wp2
      refine bodyPost_ret (results_tmp3 rfl _ _ _) rfl ?_
    · first | exact ⟨_, _, _, rfl, canon_zero, canon_zero, rfl⟩ | exact ⟨_, _, rfl, canon_zero, canon_zero, _, rfl⟩
    · first | exact ⟨_, _, _, rfl, rfl, rfl, rfl⟩ | exact ⟨_, _, rfl, rfl, rfl, _, rfl⟩
theorem s_l03Number (x : Nat) (w : World) :
    Calls Try.prog 73 #[.float .f32 x] w fun e w' => ∃ n, e = .returned (.tuple #[.float .f32 (onlyN x), .bool (fin .f32 x)]) ∧ w' = w.drewN n := by
  cases h : fin .f32 x
  all_goals
    have HF := Lib.hid h
    go_enter Try.func73, Try.ntmps73
    go_wp2_with fail
    refine (s_l01Finite _ _).mono ?_
    rintro e w' ⟨n, rfl, rfl⟩
    rw [show fin .f32 x = _ from HF.out]
    go_wp2
    go_ret2
    exact ⟨_, by unfold onlyN; rw [h]; rfl, rfl⟩
theorem s_l03NumberC (x V : Nat) (w : World) (h : canon .f32 x = V) :
    Calls Try.prog 73 #[.float .f32 x] w fun e w' => ∃ r n, e = .returned (.tuple #[.float .f32 r, .bool (fin .f32 V)]) ∧ canon .f32 r = onlyN V ∧ w' = w.drewN n :=
  (s_l03Number x w).mono fun _ _ ⟨n, he, hw⟩ => ⟨onlyN x, n, by rw [he, ← h, fin_canon], by rw [canon_onlyN, h], hw⟩
end Go.Proofs.Ytpchkedgjikpfab

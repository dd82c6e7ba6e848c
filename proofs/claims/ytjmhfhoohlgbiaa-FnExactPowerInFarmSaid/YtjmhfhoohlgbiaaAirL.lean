/- Air: what is the same, and its speeds, densities and powers: both sides. No statement is proved here. -/
import Derived.Test.YtjmhfhoohlgbiaaAir
import Derived.Test.YtjmhfhoohlgbiaaInv3
namespace Go.Proofs.Ytjmhfhoohlgbiaa
open Go Go.RowKit
def samN1 (x y : Nat) : Bool := decide (canon .f32 x = canon .f32 y)
def airS (d h s k d' h' s' k' : Nat) : Bool := samN1 d d' && (samN1 h h' && (samN1 s s' && samN1 k k'))
def spdQ (h s k z : Nat) : Nat := if amount z then onlyN (spdV h s k z) else 0
def spdO (d h s k z : Nat) : Bool := airV d h s k && (amount z && fin .f32 (spdV h s k z))
def spdR (d h s k z : Nat) : Nat := if airV d h s k && amount z then onlyN (spdV h s k z) else 0
def denO (d h s k z : Nat) : Bool := airV d h s k && (amount z && fin .f32 (denV d z))
def denR (d h s k z : Nat) : Nat := if airV d h s k && amount z then onlyN (denV d z) else 0
def powO (d s : Nat) : Bool := amount d && (amount s && fin .f32 (powV d s))
def powR (d s : Nat) : Nat := if amount d && amount s then onlyN (powV d s) else 0
theorem s_l04Power (d s : Nat) (w : World) :
    Calls Try.prog 94 #[.float .f32 d, .float .f32 s] w fun e w' => ∃ r n, e = .returned (.float .f32 r) ∧ canon .f32 r = powV d s ∧ w' = w.drewN n := by
  go_enter Try.func94, Try.ntmps94
  go_wp2
  go_ret
  exact ⟨_, _, rfl, by unfold powV; exact canonF (canonF (canonF (canonF rfl rfl) rfl) rfl) rfl, rfl⟩
theorem i_AirPower (d s : Nat) (w : World) :
    Calls Try.prog 64 #[.float .f32 d, .float .f32 s] w fun e w' => ∃ r n, e = .returned (.tuple #[.float .f32 r, .bool (powO d s)]) ∧ canon .f32 r = powR d s ∧ w' = w.drewN n := by
  go_enter Try.func64, Try.ntmps64
  go_wp2_with fail
  refine (i_notAmount _ _).mono ?_
  rintro e w' ⟨n1, rfl, rfl⟩
  cases p1 : amount d
  · go_wp2
    go_ret2
    exact ⟨_, _, by unfold powO; rw [p1]; rfl, by unfold powR; rw [p1]; exact canon_zero, by first | rfl | (simp only [World.drewN_drewN]; rfl)⟩
  · have P1 := Lib.hid p1; clear p1
    go_wp2_with fail
    refine (i_notAmount _ _).mono ?_
    rintro e w' ⟨n2, rfl, rfl⟩
    cases p2 : amount s
    · go_wp2
      go_ret2
      exact ⟨_, _, by unfold powO; rw [P1.out, p2]; rfl, by unfold powR; rw [P1.out, p2]; exact canon_zero, by first | rfl | (simp only [World.drewN_drewN]; rfl)⟩
    · have P2 := Lib.hid p2; clear p2
      go_wp2_with fail
      refine (i_onlyFiniteC _ (powV d s) _ (by unfold powV; exact canonF (canonF (canonF (canonF rfl rfl) rfl) rfl) rfl)).mono ?_
      rintro e w' ⟨r', n4, rfl, hr', rfl⟩
      have HR := Lib.hid hr'; clear hr'
      go_wp2
      go_ret2
      exact ⟨_, _, by unfold powO; rw [P1.out, P2.out]; rfl, by rw [HR.out]; unfold powR; rw [P1.out, P2.out]; rfl, by first | rfl | (simp only [World.drewN_drewN]; rfl)⟩
end Go.Proofs.Ytjmhfhoohlgbiaa

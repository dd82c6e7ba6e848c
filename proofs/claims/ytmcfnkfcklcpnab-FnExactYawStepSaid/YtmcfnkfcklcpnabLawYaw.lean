/- The law FnExactYawStep. No statement is proved here. -/
import Derived.Test.YtmcfnkfcklcpnabYaw
namespace Go.Proofs.Ytmcfnkfcklcpnab
open Go Go.RowKit
set_option maxHeartbeats 8000000 in
theorem law_FnExactYawStep (u0 : Nat) (u1 : Nat) (u2 : Nat) (u3 : Nat) (w : World) (_hu0 : u0 < words .f32) (_hu1 : u1 < words .f32) (_hu2 : u2 < words .f32) (_hu3 : u3 < words .f32) :
    Calls Try.prog 9 #[.float .f32 u0, .float .f32 u1, .float .f32 u2, .float .f32 u3] w fun e w' => e = .returned (.bool true) ∧ Below w.heap.size w w' := by
  go_enter Try.func9, Try.ntmps9
  go_wp2_with fail
  refine (s_YawStep u0 u1 u2 u3 _).mono ?_
  rintro e Cw ⟨cr0, Cn, rfl, ch0, rfl⟩
  have C0 := Lib.hid ch0; clear ch0
  go_wp2_with fail
  refine (i_YawStep u0 u1 u2 u3 _).mono ?_
  rintro e Gw ⟨gr0, Gn, rfl, gh0, rfl⟩
  have G0 := Lib.hid gh0; clear gh0
  go_wp2_with fail
  refine (sameFloat_yes _ _ _ (by rw [canon_wideV, canon_wideV, C0.out, G0.out])).mono ?_
  rintro e wq0 ⟨nq0, rfl, rfl⟩
  go_wp2
  go_ret
  exact ⟨rfl, below_draws (Below.refl _ _) _⟩
end Go.Proofs.Ytmcfnkfcklcpnab

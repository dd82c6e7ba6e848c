/- The law FnExactSectorOf. No statement is proved here. -/
import Derived.Test.YteligfbbofgonaaSec
namespace Go.Proofs.Yteligfbbofgonaa
open Go Go.RowKit
set_option maxHeartbeats 8000000 in
theorem law_FnExactSectorOf (u0 : Nat) (u1 : Int) (w : World) (_hu0 : u0 < words .f32) (_hu1 : (Lit.int .i64 u1).wf = true) :
    Calls Try.prog 8 #[.float .f32 u0, .int .i64 u1] w fun e w' => e = .returned (.bool true) ∧ Below w.heap.size w w' := by
  go_enter Try.func8, Try.ntmps8
  go_wp2_with fail
  refine (s_SectorOf u0 u1 _).mono ?_
  rintro e Cw ⟨rfl, rfl⟩
  go_wp2_with fail
  refine (i_SectorOf u0 u1 _).mono ?_
  rintro e Gw ⟨rfl, rfl⟩
  go_wp2
  go_ret
  exact ⟨rfl, Below.refl _ _⟩
end Go.Proofs.Yteligfbbofgonaa

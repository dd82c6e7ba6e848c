/- The law FnExactValidBoat. No statement is proved here. -/
import Derived.Test.YtnmklggeoepnlaaFrmV
namespace Go.Proofs.Ytnmklggeoepnlaa
open Go Go.RowKit
set_option maxHeartbeats 8000000 in
theorem law_FnExactValidBoat (a0 h0 : Nat) (w : World) (_ha0 : a0 < words .f32) (_hh0 : h0 < words .f32) :
    Calls Try.prog 5 #[.agg #[.float .f32 a0, .float .f32 h0]] w fun e w' => e = .returned (.bool true) ∧ Below w.heap.size w w' := by
  have B0 : Hid (Below w.heap.size w (w.alloc (.cells #[.float .f32 a0, .float .f32 h0] 34))) := Lib.hid ((Below.refl _ _).alloc (Nat.le_refl _) _)
  have K0_0 : Hid (BlkL (w.alloc (.cells #[.float .f32 a0, .float .f32 h0] 34)) (w.heap.size) [.float .f32 a0, .float .f32 h0]) := Lib.hid (blkL_at w #[.float .f32 a0, .float .f32 h0] 34 rfl)
  go_enter Try.func5, Try.ntmps5
  obtain ⟨a00, a01⟩ := K0_0.out.two
  go_wp2_with fail
  refine (l_toBoat a0 h0 _).mono ?_
  rintro e w1 ⟨rfl, b1⟩
  have B1 : Hid (Below w.heap.size w w1) := Lib.hid (below_of B0.out B0.out.size b1)
  have K0_1 := Lib.hid (K0_0.out.below b1)
  clear b1
  clear a00 a01
  obtain ⟨a00, a01⟩ := K0_1.out.two
  go_wp2_with fail
  refine (s_ValidBoat a0 h0 _).mono ?_
  rintro e w2 ⟨rfl, b2⟩
  have B2 : Hid (Below w.heap.size w w2) := Lib.hid (below_of B1.out B1.out.size b2)
  have K0_2 := Lib.hid (K0_1.out.below b2)
  clear b2
  clear a00 a01
  obtain ⟨a00, a01⟩ := K0_2.out.two
  go_wp2_with fail
  refine (l_toBoat a0 h0 _).mono ?_
  rintro e w3 ⟨rfl, b3⟩
  have B3 : Hid (Below w.heap.size w w3) := Lib.hid (below_of B2.out B2.out.size b3)
  have K0_3 := Lib.hid (K0_2.out.below b3)
  clear b3
  clear a00 a01
  obtain ⟨a00, a01⟩ := K0_3.out.two
  go_wp2_with fail
  refine (i_ValidBoat a0 h0 _).mono ?_
  rintro e w4 ⟨rfl, b4⟩
  have B4 : Hid (Below w.heap.size w w4) := Lib.hid (below_of B3.out B3.out.size b4)
  have K0_4 := Lib.hid (K0_3.out.below b4)
  clear b4
  clear a00 a01
  go_wp2
  go_ret
  exact ⟨rfl, by repeat (first | exact B4.out | refine below_draws ?_ _)⟩
end Go.Proofs.Ytnmklggeoepnlaa

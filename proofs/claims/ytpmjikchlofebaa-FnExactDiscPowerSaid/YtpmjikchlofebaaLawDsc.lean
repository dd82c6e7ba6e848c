/- The law FnExactDiscPower. No statement is proved here. -/
import Derived.Test.YtpmjikchlofebaaDpK
import Derived.Test.YtpmjikchlofebaaDpS
namespace Go.Proofs.Ytpmjikchlofebaa
open Go Go.RowKit
set_option maxHeartbeats 8000000 in
theorem law_FnExactDiscPower (d0 h0 s0 k0 : Nat) (u1 : Nat) (u2 : Nat) (u3 : Int) (w : World) (_hd0 : d0 < words .f32) (_hh0 : h0 < words .f32) (_hs0 : s0 < words .f32) (_hk0 : k0 < words .f32) (_hu1 : u1 < words .f32) (_hu2 : u2 < words .f32) (_hu3 : (Lit.int .i64 u3).wf = true) :
    Calls Try.prog 3 #[.agg #[.float .f32 d0, .float .f32 h0, .float .f32 s0, .float .f32 k0], .float .f32 u1, .float .f32 u2, .int .i64 u3] w fun e w' => e = .returned (.bool true) ∧ Below w.heap.size w w' := by
  have B0 : Hid (Below w.heap.size w (w.alloc (.cells #[.float .f32 d0, .float .f32 h0, .float .f32 s0, .float .f32 k0] 24))) := Lib.hid ((Below.refl _ _).alloc (Nat.le_refl _) _)
  have K0_0 : Hid (BlkL (w.alloc (.cells #[.float .f32 d0, .float .f32 h0, .float .f32 s0, .float .f32 k0] 24)) (w.heap.size) [.float .f32 d0, .float .f32 h0, .float .f32 s0, .float .f32 k0]) := Lib.hid (blkL_at w #[.float .f32 d0, .float .f32 h0, .float .f32 s0, .float .f32 k0] 24 rfl)
  go_enter Try.func3, Try.ntmps3
  obtain ⟨a00, a01, a02, a03⟩ := K0_0.out.four
  go_wp2_with fail
  refine (l_toAir d0 h0 s0 k0 _).mono ?_
  rintro e w1 ⟨rfl, b1⟩
  have B1 : Hid (Below w.heap.size w w1) := Lib.hid (below_of B0.out B0.out.size b1)
  have K0_1 := Lib.hid (K0_0.out.below b1)
  clear b1
  clear a00 a01 a02 a03
  obtain ⟨a00, a01, a02, a03⟩ := K0_1.out.four
  go_wp2_with fail
  refine (s_DiscPower d0 h0 s0 k0 u1 u2 u3 _).mono ?_
  rintro e w2 ⟨cr0, rfl, ch0, b2⟩
  have B2 : Hid (Below w.heap.size w w2) := Lib.hid (below_of B1.out B1.out.size b2)
  have K0_2 := Lib.hid (K0_1.out.below b2)
  clear b2
  have C0 := Lib.hid ch0; clear ch0
  clear a00 a01 a02 a03
  obtain ⟨a00, a01, a02, a03⟩ := K0_2.out.four
  go_wp2_with fail
  refine (l_toAir d0 h0 s0 k0 _).mono ?_
  rintro e w3 ⟨rfl, b3⟩
  have B3 : Hid (Below w.heap.size w w3) := Lib.hid (below_of B2.out B2.out.size b3)
  have K0_3 := Lib.hid (K0_2.out.below b3)
  clear b3
  clear a00 a01 a02 a03
  obtain ⟨a00, a01, a02, a03⟩ := K0_3.out.four
  go_wp2_with fail
  refine (i_DiscPower d0 h0 s0 k0 u1 u2 u3 _).mono ?_
  rintro e w4 ⟨gr0, rfl, gh0, b4⟩
  have B4 : Hid (Below w.heap.size w w4) := Lib.hid (below_of B3.out B3.out.size b4)
  have K0_4 := Lib.hid (K0_3.out.below b4)
  clear b4
  have G0 := Lib.hid gh0; clear gh0
  clear a00 a01 a02 a03
  go_wp2_with fail
  refine (sameFloat_yes _ _ _ (by rw [canon_wideV, canon_wideV, C0.out, G0.out])).mono ?_
  rintro e wq0 ⟨nq0, rfl, rfl⟩
  go_wp2
  go_ret
  exact ⟨rfl, by repeat (first | exact B4.out | refine below_draws ?_ _)⟩
end Go.Proofs.Ytpmjikchlofebaa

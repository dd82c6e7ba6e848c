/- The law FnExactDriveText. No statement is proved here. -/
import Derived.Test.YtpjgmfkjpkeohaaDoorDrvT
import Derived.Test.YtpjgmfkjpkeohaaDoorOpenD
namespace Go.Proofs.YtpjgmfkjpkeohaaDoor
open Go Go.RowKit
set_option maxHeartbeats 8000000 in
theorem law_FnExactDriveText (p0x0 p1x0 p2x0 p3x0 p4x0 p5x0 p6x0 p7x0 : Nat) (st0 : Int) (sp0 pi0 en0 : Nat) (w : World) (_hp0x0 : p0x0 < words .f32) (_hp1x0 : p1x0 < words .f32) (_hp2x0 : p2x0 < words .f32) (_hp3x0 : p3x0 < words .f32) (_hp4x0 : p4x0 < words .f32) (_hp5x0 : p5x0 < words .f32) (_hp6x0 : p6x0 < words .f32) (_hp7x0 : p7x0 < words .f32) (_hst0 : (Lit.int .i64 st0).wf = true) (_hsp0 : sp0 < words .f32) (_hpi0 : pi0 < words .f32) (_hen0 : en0 < words .f32) (hT : T64 w ∧ T10 w) :
    Calls Tryd.prog 6 #[.agg #[.float .f32 p0x0, .float .f32 p1x0, .float .f32 p2x0, .float .f32 p3x0, .float .f32 p4x0, .float .f32 p5x0, .float .f32 p6x0, .float .f32 p7x0, .int .i64 st0, .float .f32 sp0, .float .f32 pi0, .float .f32 en0]] w fun e w' => e = .returned (.bool true) ∧ Below w.heap.size w w' := by
  have HT := Lib.hid hT
  clear hT
  have HI := Lib.hid (wf_i64 _hst0)
  have HW : Hid ((∀ x ∈ [p0x0, p1x0, p2x0, p3x0, p4x0, p5x0, p6x0, p7x0], canon .f32 x < 4294967296) ∧ ∀ x ∈ [sp0, pi0, en0], canon .f32 x < 4294967296) := Lib.hid (by
    refine ⟨fun x hx => ?_, fun x hx => ?_⟩ <;> simp only [List.mem_cons, List.not_mem_nil, or_false] at hx
    · rcases hx with rfl | rfl | rfl | rfl | rfl | rfl | rfl | rfl <;> exact canon_lt (by assumption)
    · rcases hx with rfl | rfl | rfl <;> exact canon_lt (by assumption))
  have B0 : Hid (Below w.heap.size w (w.alloc (.cells #[.float .f32 p0x0, .float .f32 p1x0, .float .f32 p2x0, .float .f32 p3x0, .float .f32 p4x0, .float .f32 p5x0, .float .f32 p6x0, .float .f32 p7x0, .int .i64 st0, .float .f32 sp0, .float .f32 pi0, .float .f32 en0] 53))) := Lib.hid ((Below.refl _ _).alloc (Nat.le_refl _) _)
  have K0_0 : Hid (BlkL (w.alloc (.cells #[.float .f32 p0x0, .float .f32 p1x0, .float .f32 p2x0, .float .f32 p3x0, .float .f32 p4x0, .float .f32 p5x0, .float .f32 p6x0, .float .f32 p7x0, .int .i64 st0, .float .f32 sp0, .float .f32 pi0, .float .f32 en0] 53)) (w.heap.size) [.float .f32 p0x0, .float .f32 p1x0, .float .f32 p2x0, .float .f32 p3x0, .float .f32 p4x0, .float .f32 p5x0, .float .f32 p6x0, .float .f32 p7x0, .int .i64 st0, .float .f32 sp0, .float .f32 pi0, .float .f32 en0]) := Lib.hid (blkL_at w #[.float .f32 p0x0, .float .f32 p1x0, .float .f32 p2x0, .float .f32 p3x0, .float .f32 p4x0, .float .f32 p5x0, .float .f32 p6x0, .float .f32 p7x0, .int .i64 st0, .float .f32 sp0, .float .f32 pi0, .float .f32 en0] 53 rfl)
  go_enter Tryd.func6, Tryd.ntmps6
  obtain ⟨⟨a0, a1, a2, a3, a4, a5, a6, a7⟩, a8, a9, a10, a11⟩ := (K0_0.out).c12
  go_wp2_with fail
  refine (l_toDrive p0x0 p1x0 p2x0 p3x0 p4x0 p5x0 p6x0 p7x0 st0 sp0 pi0 en0 _).mono ?_
  rintro e w1 ⟨rfl, b1⟩
  have B1 : Hid (Below w.heap.size w w1) := Lib.hid (below_of B0.out B0.out.size b1)
  have K0_1 := Lib.hid ((K0_0.out).below b1)
  clear b1
  clear a0 a1 a2 a3 a4 a5 a6 a7 a8 a9 a10 a11
  clear K0_0
  obtain ⟨⟨a0, a1, a2, a3, a4, a5, a6, a7⟩, a8, a9, a10, a11⟩ := (K0_1.out).c12
  go_wp2_with fail
  refine (s_DriveText p0x0 p1x0 p2x0 p3x0 p4x0 p5x0 p6x0 p7x0 st0 sp0 pi0 en0 _ HW.out HI.out).mono ?_
  rintro e w2 ⟨rfl, b2⟩
  have B2 : Hid (Below w.heap.size w w2) := Lib.hid (below_of B1.out B1.out.size b2)
  have K0_2 := Lib.hid ((K0_1.out).below b2)
  clear b2
  clear a0 a1 a2 a3 a4 a5 a6 a7 a8 a9 a10 a11
  clear K0_1
  obtain ⟨⟨a0, a1, a2, a3, a4, a5, a6, a7⟩, a8, a9, a10, a11⟩ := (K0_2.out).c12
  go_wp2_with fail
  refine (l_toDrive p0x0 p1x0 p2x0 p3x0 p4x0 p5x0 p6x0 p7x0 st0 sp0 pi0 en0 _).mono ?_
  rintro e w3 ⟨rfl, b3⟩
  have B3 : Hid (Below w.heap.size w w3) := Lib.hid (below_of B2.out B2.out.size b3)
  have K0_3 := Lib.hid ((K0_2.out).below b3)
  clear b3
  clear a0 a1 a2 a3 a4 a5 a6 a7 a8 a9 a10 a11
  clear K0_2
  obtain ⟨⟨a0, a1, a2, a3, a4, a5, a6, a7⟩, a8, a9, a10, a11⟩ := (K0_3.out).c12
  go_wp2_with fail
  refine (i_DriveText p0x0 p1x0 p2x0 p3x0 p4x0 p5x0 p6x0 p7x0 st0 sp0 pi0 en0 _ HW.out HI.out ⟨HT.out.1.below B3.out, HT.out.2.below B3.out⟩).mono ?_
  rintro e w4 ⟨rfl, b4⟩
  have B4 : Hid (Below w.heap.size w w4) := Lib.hid (below_of B3.out B3.out.size b4)
  have K0_4 := Lib.hid ((K0_3.out).below b4)
  clear b4
  clear a0 a1 a2 a3 a4 a5 a6 a7 a8 a9 a10 a11
  clear K0_3
  go_wp2
  go_ret
  exact ⟨rfl, by repeat (first | exact B4.out | refine below_draws ?_ _)⟩
end Go.Proofs.YtpjgmfkjpkeohaaDoor

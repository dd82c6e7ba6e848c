/- The law FnExactScaleRotor. No statement is proved here. -/
import Derived.Test.YtiiiigldpbomkaaScI
import Derived.Test.YtiiiigldpbomkaaScS
import Derived.Test.YtiiiigldpbomkaaKeepR
import Derived.Test.YtiiiigldpbomkaaRotL
import Derived.Test.YtiiiigldpbomkaaInv4
namespace Go.Proofs.Ytiiiigldpbomkaa
open Go Go.RowKit
set_option maxHeartbeats 16000000 in
set_option maxRecDepth 100000 in
theorem law_FnExactScaleRotor (A0 L0 D0 S0 : Option Addr) (ca0 cl0 cd0 n0 cs0 : Nat) (c0 : Int) (hub0 tip0 : Nat) (a0 l0 d0 s0 : List Nat) (u1 : Nat) (w : World) (h0 : Rt w A0 L0 D0 S0 a0 l0 d0 s0) (hs0 : s0.length = n0 * 3) (ma0 : a0.length ≤ 9223372036854775807) (ml0 : l0.length ≤ 9223372036854775807) (md0 : d0.length ≤ 9223372036854775807) (ms0 : n0 ≤ 9223372036854775807) (_hu1 : u1 < words .f32) :
    Calls Try.prog 6 #[.agg #[.slice A0 a0.length ca0, .slice L0 l0.length cl0, .slice D0 d0.length cd0, .slice S0 n0 cs0, .int .i64 c0, .float .f32 hub0, .float .f32 tip0], .float .f32 u1] w fun e w' => e = .returned (.bool true) ∧ Below w.heap.size w w' := by
  have HP0 := Lib.hid h0
  clear h0
  have HSL0 := Lib.hid hs0
  clear hs0
  by_cases hn0 : a0.length + l0.length + d0.length + n0 ≤ 1048576
  · skip
    have HN0 : Hid (FewR a0 l0 d0 s0 n0) := Lib.hid (by have := HSL0.out; unfold FewR; omega)
    have HF : Hid (FewR (gLp (scO a0 l0 d0 s0 n0 c0 hub0 tip0 u1) a0) (gLp (scO a0 l0 d0 s0 n0 c0 hub0 tip0 u1) l0) (gLp (scO a0 l0 d0 s0 n0 c0 hub0 tip0 u1) d0) (gLp (scO a0 l0 d0 s0 n0 c0 hub0 tip0 u1) (mp3 (scG u1) s0)) (gN (scO a0 l0 d0 s0 n0 c0 hub0 tip0 u1) n0)) := Lib.hid (by unfold scO; exact st_few (by rw [mp3_length]; exact HSL0.out))
    obtain ⟨w0, hw0⟩ : ∃ x, x = (w.alloc (.cells #[.slice A0 a0.length ca0, .slice L0 l0.length cl0, .slice D0 d0.length cd0, .slice S0 n0 cs0, .int .i64 c0, .float .f32 hub0, .float .f32 tip0] 41)) := ⟨_, rfl⟩
    have B0 : Hid (Below w.heap.size w w0) := Lib.hid (by rw [hw0]; exact (Below.refl _ _).alloc (Nat.le_refl _) _)
    have Z0 : Hid (w0.heap.size = w.heap.size + 1) := Lib.hid (by rw [hw0]; simp)
    have K0 : Hid (BlkL w0 (w.heap.size) [.slice A0 a0.length ca0, .slice L0 l0.length cl0, .slice D0 d0.length cd0, .slice S0 n0 cs0, .int .i64 c0, .float .f32 hub0, .float .f32 tip0]) := Lib.hid (by rw [hw0]; exact blkL_at w #[.slice A0 a0.length ca0, .slice L0 l0.length cl0, .slice D0 d0.length cd0, .slice S0 n0 cs0, .int .i64 c0, .float .f32 hub0, .float .f32 tip0] 41 rfl)
    go_enter Try.func6, Try.ntmps6
    go_wp2_with fail
    rw [← hw0]
    clear hw0
    have hq0 : (0 : Int) ≤ 1048576 - (a0.length : Int) - (l0.length : Int) - (d0.length : Int) - (n0 : Int) := by omega
    obtain ⟨K0x0, K0x1, K0x2, K0x3, K0x4, K0x5, K0x6⟩ := K0.out.sevenT
    go_wp2_with fail
    refine (l_szRotor_yes A0 L0 D0 S0 _ ca0 _ cl0 _ cd0 n0 cs0 c0 hub0 tip0 _ _ (by omega) (by omega)).mono ?_
    rintro e wd1 ⟨rfl, b⟩
    have B1 : Hid (Below w.heap.size w wd1) := Lib.hid (below_of B0.out B0.out.size b)
    have Z1 : Hid (w0.heap.size ≤ wd1.heap.size) := Lib.hid b.size
    have K0_1 : Hid (BlkL wd1 (w.heap.size) [.slice A0 a0.length ca0, .slice L0 l0.length cl0, .slice D0 d0.length cd0, .slice S0 n0 cs0, .int .i64 c0, .float .f32 hub0, .float .f32 tip0]) := Lib.hid (K0.out.below b)
    clear K0x0 K0x1 K0x2 K0x3 K0x4 K0x5 K0x6
    clear K0
    clear b
    obtain ⟨K0x0, K0x1, K0x2, K0x3, K0x4, K0x5, K0x6⟩ := K0_1.out.sevenT
    go_wp2_with fail
    refine (l_toRotor A0 L0 D0 S0 ca0 cl0 cd0 n0 cs0 c0 hub0 tip0 a0 l0 d0 s0 _ (HP0.out.below B1.out) HN0.out).mono ?_
    rintro e wd2 ⟨p01, p02, p03, p04, rfl, ho, b⟩
    have B2 : Hid (Below w.heap.size w wd2) := Lib.hid (below_of B1.out B1.out.size b)
    have Z2 : Hid (wd1.heap.size ≤ wd2.heap.size) := Lib.hid b.size
    have K0_2 : Hid (BlkL wd2 (w.heap.size) [.slice A0 a0.length ca0, .slice L0 l0.length cl0, .slice D0 d0.length cd0, .slice S0 n0 cs0, .int .i64 c0, .float .f32 hub0, .float .f32 tip0]) := Lib.hid (K0_1.out.below b)
    clear K0x0 K0x1 K0x2 K0x3 K0x4 K0x5 K0x6
    clear K0_1
    have Xp0 : Hid (OwnT wd2 wd1.heap.size (some ⟨p01, 0, none⟩) (some ⟨p02, 0, none⟩) (some ⟨p03, 0, none⟩) (some ⟨p04, 0, none⟩) p01 p02 p03 p04 a0 l0 d0 s0) := Lib.hid (OwnR.t ho)
    have Xp0bd := Xp0
    clear ho b
    obtain ⟨K0x0, K0x1, K0x2, K0x3, K0x4, K0x5, K0x6⟩ := K0_2.out.sevenT
    go_wp2_with fail
    refine (s_ScaleRotor _ _ _ _ _ _ _ _ _ _ _ _ a0 l0 d0 s0 u1 _ Xp0.out.rt HN0.out).mono ?_
    rintro e wd3 ⟨cR1, cR2, cR3, cR4, cc1, cc2, cc3, cc4, cg1, cg2, cg3, cg4, rfl, ho, b⟩
    have B3 : Hid (Below w.heap.size w wd3) := Lib.hid (below_of B2.out B2.out.size b)
    have Z3 : Hid (wd2.heap.size ≤ wd3.heap.size) := Lib.hid b.size
    have K0_3 : Hid (BlkL wd3 (w.heap.size) [.slice A0 a0.length ca0, .slice L0 l0.length cl0, .slice D0 d0.length cd0, .slice S0 n0 cs0, .int .i64 c0, .float .f32 hub0, .float .f32 tip0]) := Lib.hid (K0_2.out.below b)
    have Xp0_1 : Hid (OwnT wd3 wd1.heap.size (some ⟨p01, 0, none⟩) (some ⟨p02, 0, none⟩) (some ⟨p03, 0, none⟩) (some ⟨p04, 0, none⟩) p01 p02 p03 p04 a0 l0 d0 s0) := Lib.hid (Xp0.out.below b)
    clear K0x0 K0x1 K0x2 K0x3 K0x4 K0x5 K0x6
    clear K0_2 Xp0
    have Xc : Hid (OwnT wd3 wd2.heap.size cR1 cR2 cR3 cR4 cg1 cg2 cg3 cg4 (gLp (scO a0 l0 d0 s0 n0 c0 hub0 tip0 u1) a0) (gLp (scO a0 l0 d0 s0 n0 c0 hub0 tip0 u1) l0) (gLp (scO a0 l0 d0 s0 n0 c0 hub0 tip0 u1) d0) (gLp (scO a0 l0 d0 s0 n0 c0 hub0 tip0 u1) (mp3 (scG u1) s0))) := Lib.hid (ho)
    have Xcbd := Xc
    clear ho
    clear b
    obtain ⟨wd4, hw4⟩ : ∃ x, x = wd3.alloc (.cells #[.slice cR1 (gLp (scO a0 l0 d0 s0 n0 c0 hub0 tip0 u1) a0).length cc1, .slice cR2 (gLp (scO a0 l0 d0 s0 n0 c0 hub0 tip0 u1) l0).length cc2, .slice cR3 (gLp (scO a0 l0 d0 s0 n0 c0 hub0 tip0 u1) d0).length cc3, .slice cR4 (gN (scO a0 l0 d0 s0 n0 c0 hub0 tip0 u1) n0) cc4, .int .i64 (gC (scO a0 l0 d0 s0 n0 c0 hub0 tip0 u1) c0), .float .f32 (gN (scO a0 l0 d0 s0 n0 c0 hub0 tip0 u1) (fop .mul .f32 (canon .f32 u1) (canon .f32 hub0))), .float .f32 (gN (scO a0 l0 d0 s0 n0 c0 hub0 tip0 u1) (fop .mul .f32 (canon .f32 u1) (canon .f32 tip0)))] 30) := ⟨_, rfl⟩
    have b : Below wd3.heap.size wd3 wd4 := by rw [hw4]; exact (Below.refl _ _).alloc (Nat.le_refl _) _
    have Y4 : Hid (wd3.heap.size + 1 ≤ wd4.heap.size) := Lib.hid (by rw [hw4]; simp)
    have B4 : Hid (Below w.heap.size w wd4) := Lib.hid (below_of B3.out B3.out.size b)
    have Z4 : Hid (wd3.heap.size ≤ wd4.heap.size) := Lib.hid b.size
    have K0_4 : Hid (BlkL wd4 (w.heap.size) [.slice A0 a0.length ca0, .slice L0 l0.length cl0, .slice D0 d0.length cd0, .slice S0 n0 cs0, .int .i64 c0, .float .f32 hub0, .float .f32 tip0]) := Lib.hid (K0_3.out.below b)
    have Xc_1 : Hid (OwnT wd4 wd2.heap.size cR1 cR2 cR3 cR4 cg1 cg2 cg3 cg4 (gLp (scO a0 l0 d0 s0 n0 c0 hub0 tip0 u1) a0) (gLp (scO a0 l0 d0 s0 n0 c0 hub0 tip0 u1) l0) (gLp (scO a0 l0 d0 s0 n0 c0 hub0 tip0 u1) d0) (gLp (scO a0 l0 d0 s0 n0 c0 hub0 tip0 u1) (mp3 (scG u1) s0))) := Lib.hid (Xc.out.below b)
    have WB : Hid (BlkL wd4 (wd3.heap.size) [.slice cR1 (gLp (scO a0 l0 d0 s0 n0 c0 hub0 tip0 u1) a0).length cc1, .slice cR2 (gLp (scO a0 l0 d0 s0 n0 c0 hub0 tip0 u1) l0).length cc2, .slice cR3 (gLp (scO a0 l0 d0 s0 n0 c0 hub0 tip0 u1) d0).length cc3, .slice cR4 (gN (scO a0 l0 d0 s0 n0 c0 hub0 tip0 u1) n0) cc4, .int .i64 (gC (scO a0 l0 d0 s0 n0 c0 hub0 tip0 u1) c0), .float .f32 (gN (scO a0 l0 d0 s0 n0 c0 hub0 tip0 u1) (fop .mul .f32 (canon .f32 u1) (canon .f32 hub0))), .float .f32 (gN (scO a0 l0 d0 s0 n0 c0 hub0 tip0 u1) (fop .mul .f32 (canon .f32 u1) (canon .f32 tip0)))]) := Lib.hid (by rw [hw4]; exact blkL_at wd3 #[.slice cR1 (gLp (scO a0 l0 d0 s0 n0 c0 hub0 tip0 u1) a0).length cc1, .slice cR2 (gLp (scO a0 l0 d0 s0 n0 c0 hub0 tip0 u1) l0).length cc2, .slice cR3 (gLp (scO a0 l0 d0 s0 n0 c0 hub0 tip0 u1) d0).length cc3, .slice cR4 (gN (scO a0 l0 d0 s0 n0 c0 hub0 tip0 u1) n0) cc4, .int .i64 (gC (scO a0 l0 d0 s0 n0 c0 hub0 tip0 u1) c0), .float .f32 (gN (scO a0 l0 d0 s0 n0 c0 hub0 tip0 u1) (fop .mul .f32 (canon .f32 u1) (canon .f32 hub0))), .float .f32 (gN (scO a0 l0 d0 s0 n0 c0 hub0 tip0 u1) (fop .mul .f32 (canon .f32 u1) (canon .f32 tip0)))] 30 rfl)
    clear b
    have K0y0 := fun o => ((K0_3.out.alloc o).2 0 _ rfl).1
    have K0y1 := fun o => ((K0_3.out.alloc o).2 1 _ rfl).1
    have K0y2 := fun o => ((K0_3.out.alloc o).2 2 _ rfl).1
    have K0y3 := fun o => ((K0_3.out.alloc o).2 3 _ rfl).1
    have K0y4 := fun o => ((K0_3.out.alloc o).2 4 _ rfl).1
    have K0y5 := fun o => ((K0_3.out.alloc o).2 5 _ rfl).1
    have K0y6 := fun o => ((K0_3.out.alloc o).2 6 _ rfl).1
    go_wp2_with fail
    rw [← hw4]
    clear hw4
    clear K0y0 K0y1 K0y2 K0y3 K0y4 K0y5 K0y6
    clear K0_3 Xc
    obtain ⟨K0x0, K0x1, K0x2, K0x3, K0x4, K0x5, K0x6⟩ := K0_4.out.sevenT
    obtain ⟨WBx0, WBx1, WBx2, WBx3, WBx4, WBx5, WBx6⟩ := WB.out.sevenT
    go_wp2_with fail
    refine (l_toRotor A0 L0 D0 S0 ca0 cl0 cd0 n0 cs0 c0 hub0 tip0 a0 l0 d0 s0 _ (HP0.out.below B4.out) HN0.out).mono ?_
    rintro e wd5 ⟨x01, x02, x03, x04, rfl, ho, b⟩
    have B5 : Hid (Below w.heap.size w wd5) := Lib.hid (below_of B4.out B4.out.size b)
    have Z5 : Hid (wd4.heap.size ≤ wd5.heap.size) := Lib.hid b.size
    have K0_5 : Hid (BlkL wd5 (w.heap.size) [.slice A0 a0.length ca0, .slice L0 l0.length cl0, .slice D0 d0.length cd0, .slice S0 n0 cs0, .int .i64 c0, .float .f32 hub0, .float .f32 tip0]) := Lib.hid (K0_4.out.below b)
    have Xc_2 : Hid (OwnT wd5 wd2.heap.size cR1 cR2 cR3 cR4 cg1 cg2 cg3 cg4 (gLp (scO a0 l0 d0 s0 n0 c0 hub0 tip0 u1) a0) (gLp (scO a0 l0 d0 s0 n0 c0 hub0 tip0 u1) l0) (gLp (scO a0 l0 d0 s0 n0 c0 hub0 tip0 u1) d0) (gLp (scO a0 l0 d0 s0 n0 c0 hub0 tip0 u1) (mp3 (scG u1) s0))) := Lib.hid (Xc_1.out.below b)
    have WB_1 : Hid (BlkL wd5 (wd3.heap.size) [.slice cR1 (gLp (scO a0 l0 d0 s0 n0 c0 hub0 tip0 u1) a0).length cc1, .slice cR2 (gLp (scO a0 l0 d0 s0 n0 c0 hub0 tip0 u1) l0).length cc2, .slice cR3 (gLp (scO a0 l0 d0 s0 n0 c0 hub0 tip0 u1) d0).length cc3, .slice cR4 (gN (scO a0 l0 d0 s0 n0 c0 hub0 tip0 u1) n0) cc4, .int .i64 (gC (scO a0 l0 d0 s0 n0 c0 hub0 tip0 u1) c0), .float .f32 (gN (scO a0 l0 d0 s0 n0 c0 hub0 tip0 u1) (fop .mul .f32 (canon .f32 u1) (canon .f32 hub0))), .float .f32 (gN (scO a0 l0 d0 s0 n0 c0 hub0 tip0 u1) (fop .mul .f32 (canon .f32 u1) (canon .f32 tip0)))]) := Lib.hid (WB.out.below b)
    clear K0x0 K0x1 K0x2 K0x3 K0x4 K0x5 K0x6 WBx0 WBx1 WBx2 WBx3 WBx4 WBx5 WBx6
    clear K0_4 Xc_1 WB
    have Xx0 : Hid (OwnT wd5 wd4.heap.size (some ⟨x01, 0, none⟩) (some ⟨x02, 0, none⟩) (some ⟨x03, 0, none⟩) (some ⟨x04, 0, none⟩) x01 x02 x03 x04 a0 l0 d0 s0) := Lib.hid (OwnR.t ho)
    have Xx0bd := Xx0
    clear ho b
    obtain ⟨wd6, hw6⟩ : ∃ x, x = wd5.alloc (.cells #[.slice (some ⟨x01, 0, none⟩) a0.length a0.length, .slice (some ⟨x02, 0, none⟩) l0.length l0.length, .slice (some ⟨x03, 0, none⟩) d0.length d0.length, .slice (some ⟨x04, 0, none⟩) n0 n0, .int .i64 c0, .float .f32 hub0, .float .f32 tip0] 30) := ⟨_, rfl⟩
    have b : Below wd5.heap.size wd5 wd6 := by rw [hw6]; exact (Below.refl _ _).alloc (Nat.le_refl _) _
    have Y6 : Hid (wd5.heap.size + 1 ≤ wd6.heap.size) := Lib.hid (by rw [hw6]; simp)
    have B6 : Hid (Below w.heap.size w wd6) := Lib.hid (below_of B5.out B5.out.size b)
    have Z6 : Hid (wd5.heap.size ≤ wd6.heap.size) := Lib.hid b.size
    have K0_6 : Hid (BlkL wd6 (w.heap.size) [.slice A0 a0.length ca0, .slice L0 l0.length cl0, .slice D0 d0.length cd0, .slice S0 n0 cs0, .int .i64 c0, .float .f32 hub0, .float .f32 tip0]) := Lib.hid (K0_5.out.below b)
    have Xc_3 : Hid (OwnT wd6 wd2.heap.size cR1 cR2 cR3 cR4 cg1 cg2 cg3 cg4 (gLp (scO a0 l0 d0 s0 n0 c0 hub0 tip0 u1) a0) (gLp (scO a0 l0 d0 s0 n0 c0 hub0 tip0 u1) l0) (gLp (scO a0 l0 d0 s0 n0 c0 hub0 tip0 u1) d0) (gLp (scO a0 l0 d0 s0 n0 c0 hub0 tip0 u1) (mp3 (scG u1) s0))) := Lib.hid (Xc_2.out.below b)
    have WB_2 : Hid (BlkL wd6 (wd3.heap.size) [.slice cR1 (gLp (scO a0 l0 d0 s0 n0 c0 hub0 tip0 u1) a0).length cc1, .slice cR2 (gLp (scO a0 l0 d0 s0 n0 c0 hub0 tip0 u1) l0).length cc2, .slice cR3 (gLp (scO a0 l0 d0 s0 n0 c0 hub0 tip0 u1) d0).length cc3, .slice cR4 (gN (scO a0 l0 d0 s0 n0 c0 hub0 tip0 u1) n0) cc4, .int .i64 (gC (scO a0 l0 d0 s0 n0 c0 hub0 tip0 u1) c0), .float .f32 (gN (scO a0 l0 d0 s0 n0 c0 hub0 tip0 u1) (fop .mul .f32 (canon .f32 u1) (canon .f32 hub0))), .float .f32 (gN (scO a0 l0 d0 s0 n0 c0 hub0 tip0 u1) (fop .mul .f32 (canon .f32 u1) (canon .f32 tip0)))]) := Lib.hid (WB_1.out.below b)
    have Xx0_1 : Hid (OwnT wd6 wd4.heap.size (some ⟨x01, 0, none⟩) (some ⟨x02, 0, none⟩) (some ⟨x03, 0, none⟩) (some ⟨x04, 0, none⟩) x01 x02 x03 x04 a0 l0 d0 s0) := Lib.hid (Xx0.out.below b)
    have V0 : Hid (BlkL wd6 (wd5.heap.size) [.slice (some ⟨x01, 0, none⟩) a0.length a0.length, .slice (some ⟨x02, 0, none⟩) l0.length l0.length, .slice (some ⟨x03, 0, none⟩) d0.length d0.length, .slice (some ⟨x04, 0, none⟩) n0 n0, .int .i64 c0, .float .f32 hub0, .float .f32 tip0]) := Lib.hid (by rw [hw6]; exact blkL_at wd5 #[.slice (some ⟨x01, 0, none⟩) a0.length a0.length, .slice (some ⟨x02, 0, none⟩) l0.length l0.length, .slice (some ⟨x03, 0, none⟩) d0.length d0.length, .slice (some ⟨x04, 0, none⟩) n0 n0, .int .i64 c0, .float .f32 hub0, .float .f32 tip0] 30 rfl)
    clear b
    have K0y0 := fun o => ((K0_5.out.alloc o).2 0 _ rfl).1
    have K0y1 := fun o => ((K0_5.out.alloc o).2 1 _ rfl).1
    have K0y2 := fun o => ((K0_5.out.alloc o).2 2 _ rfl).1
    have K0y3 := fun o => ((K0_5.out.alloc o).2 3 _ rfl).1
    have K0y4 := fun o => ((K0_5.out.alloc o).2 4 _ rfl).1
    have K0y5 := fun o => ((K0_5.out.alloc o).2 5 _ rfl).1
    have K0y6 := fun o => ((K0_5.out.alloc o).2 6 _ rfl).1
    have WBy0 := fun o => ((WB_1.out.alloc o).2 0 _ rfl).1
    have WBy1 := fun o => ((WB_1.out.alloc o).2 1 _ rfl).1
    have WBy2 := fun o => ((WB_1.out.alloc o).2 2 _ rfl).1
    have WBy3 := fun o => ((WB_1.out.alloc o).2 3 _ rfl).1
    have WBy4 := fun o => ((WB_1.out.alloc o).2 4 _ rfl).1
    have WBy5 := fun o => ((WB_1.out.alloc o).2 5 _ rfl).1
    have WBy6 := fun o => ((WB_1.out.alloc o).2 6 _ rfl).1
    go_wp2_with fail
    rw [← hw6]
    clear hw6
    clear K0y0 K0y1 K0y2 K0y3 K0y4 K0y5 K0y6 WBy0 WBy1 WBy2 WBy3 WBy4 WBy5 WBy6
    clear K0_5 Xc_2 WB_1 Xx0
    obtain ⟨K0x0, K0x1, K0x2, K0x3, K0x4, K0x5, K0x6⟩ := K0_6.out.sevenT
    obtain ⟨WBx0, WBx1, WBx2, WBx3, WBx4, WBx5, WBx6⟩ := WB_2.out.sevenT
    obtain ⟨V0x0, V0x1, V0x2, V0x3, V0x4, V0x5, V0x6⟩ := V0.out.sevenT
    go_wp2_with fail
    refine (i_ScaleRotor _ _ _ _ _ _ _ _ _ _ _ _ a0 l0 d0 s0 u1 _ Xx0_1.out.rt HN0.out).mono ?_
    rintro e wd7 ⟨gR1, gR2, gR3, gR4, gc1, gc2, gc3, gc4, gg1, gg2, gg3, gg4, rfl, ho, b⟩
    have B7 : Hid (Below w.heap.size w wd7) := Lib.hid (below_of B6.out B6.out.size b)
    have Z7 : Hid (wd6.heap.size ≤ wd7.heap.size) := Lib.hid b.size
    have K0_7 : Hid (BlkL wd7 (w.heap.size) [.slice A0 a0.length ca0, .slice L0 l0.length cl0, .slice D0 d0.length cd0, .slice S0 n0 cs0, .int .i64 c0, .float .f32 hub0, .float .f32 tip0]) := Lib.hid (K0_6.out.below b)
    have Xc_4 : Hid (OwnT wd7 wd2.heap.size cR1 cR2 cR3 cR4 cg1 cg2 cg3 cg4 (gLp (scO a0 l0 d0 s0 n0 c0 hub0 tip0 u1) a0) (gLp (scO a0 l0 d0 s0 n0 c0 hub0 tip0 u1) l0) (gLp (scO a0 l0 d0 s0 n0 c0 hub0 tip0 u1) d0) (gLp (scO a0 l0 d0 s0 n0 c0 hub0 tip0 u1) (mp3 (scG u1) s0))) := Lib.hid (Xc_3.out.below b)
    have WB_3 : Hid (BlkL wd7 (wd3.heap.size) [.slice cR1 (gLp (scO a0 l0 d0 s0 n0 c0 hub0 tip0 u1) a0).length cc1, .slice cR2 (gLp (scO a0 l0 d0 s0 n0 c0 hub0 tip0 u1) l0).length cc2, .slice cR3 (gLp (scO a0 l0 d0 s0 n0 c0 hub0 tip0 u1) d0).length cc3, .slice cR4 (gN (scO a0 l0 d0 s0 n0 c0 hub0 tip0 u1) n0) cc4, .int .i64 (gC (scO a0 l0 d0 s0 n0 c0 hub0 tip0 u1) c0), .float .f32 (gN (scO a0 l0 d0 s0 n0 c0 hub0 tip0 u1) (fop .mul .f32 (canon .f32 u1) (canon .f32 hub0))), .float .f32 (gN (scO a0 l0 d0 s0 n0 c0 hub0 tip0 u1) (fop .mul .f32 (canon .f32 u1) (canon .f32 tip0)))]) := Lib.hid (WB_2.out.below b)
    have Xx0_2 : Hid (OwnT wd7 wd4.heap.size (some ⟨x01, 0, none⟩) (some ⟨x02, 0, none⟩) (some ⟨x03, 0, none⟩) (some ⟨x04, 0, none⟩) x01 x02 x03 x04 a0 l0 d0 s0) := Lib.hid (Xx0_1.out.below b)
    have V0_1 : Hid (BlkL wd7 (wd5.heap.size) [.slice (some ⟨x01, 0, none⟩) a0.length a0.length, .slice (some ⟨x02, 0, none⟩) l0.length l0.length, .slice (some ⟨x03, 0, none⟩) d0.length d0.length, .slice (some ⟨x04, 0, none⟩) n0 n0, .int .i64 c0, .float .f32 hub0, .float .f32 tip0]) := Lib.hid (V0.out.below b)
    clear K0x0 K0x1 K0x2 K0x3 K0x4 K0x5 K0x6 WBx0 WBx1 WBx2 WBx3 WBx4 WBx5 WBx6 V0x0 V0x1 V0x2 V0x3 V0x4 V0x5 V0x6
    clear K0_6 Xc_3 WB_2 Xx0_1 V0
    have Xg : Hid (OwnT wd7 wd6.heap.size gR1 gR2 gR3 gR4 gg1 gg2 gg3 gg4 (gLp (scO a0 l0 d0 s0 n0 c0 hub0 tip0 u1) a0) (gLp (scO a0 l0 d0 s0 n0 c0 hub0 tip0 u1) l0) (gLp (scO a0 l0 d0 s0 n0 c0 hub0 tip0 u1) d0) (gLp (scO a0 l0 d0 s0 n0 c0 hub0 tip0 u1) (mp3 (scG u1) s0))) := Lib.hid (ho)
    have Xgbd := Xg
    clear ho
    clear b
    obtain ⟨wd8, hw8⟩ : ∃ x, x = wd7.alloc (.cells #[.slice gR1 (gLp (scO a0 l0 d0 s0 n0 c0 hub0 tip0 u1) a0).length gc1, .slice gR2 (gLp (scO a0 l0 d0 s0 n0 c0 hub0 tip0 u1) l0).length gc2, .slice gR3 (gLp (scO a0 l0 d0 s0 n0 c0 hub0 tip0 u1) d0).length gc3, .slice gR4 (gN (scO a0 l0 d0 s0 n0 c0 hub0 tip0 u1) n0) gc4, .int .i64 (gC (scO a0 l0 d0 s0 n0 c0 hub0 tip0 u1) c0), .float .f32 (gN (scO a0 l0 d0 s0 n0 c0 hub0 tip0 u1) (fop .mul .f32 (canon .f32 u1) (canon .f32 hub0))), .float .f32 (gN (scO a0 l0 d0 s0 n0 c0 hub0 tip0 u1) (fop .mul .f32 (canon .f32 u1) (canon .f32 tip0)))] 30) := ⟨_, rfl⟩
    have b : Below wd7.heap.size wd7 wd8 := by rw [hw8]; exact (Below.refl _ _).alloc (Nat.le_refl _) _
    have Y8 : Hid (wd7.heap.size + 1 ≤ wd8.heap.size) := Lib.hid (by rw [hw8]; simp)
    have B8 : Hid (Below w.heap.size w wd8) := Lib.hid (below_of B7.out B7.out.size b)
    have Z8 : Hid (wd7.heap.size ≤ wd8.heap.size) := Lib.hid b.size
    have K0_8 : Hid (BlkL wd8 (w.heap.size) [.slice A0 a0.length ca0, .slice L0 l0.length cl0, .slice D0 d0.length cd0, .slice S0 n0 cs0, .int .i64 c0, .float .f32 hub0, .float .f32 tip0]) := Lib.hid (K0_7.out.below b)
    have Xc_5 : Hid (OwnT wd8 wd2.heap.size cR1 cR2 cR3 cR4 cg1 cg2 cg3 cg4 (gLp (scO a0 l0 d0 s0 n0 c0 hub0 tip0 u1) a0) (gLp (scO a0 l0 d0 s0 n0 c0 hub0 tip0 u1) l0) (gLp (scO a0 l0 d0 s0 n0 c0 hub0 tip0 u1) d0) (gLp (scO a0 l0 d0 s0 n0 c0 hub0 tip0 u1) (mp3 (scG u1) s0))) := Lib.hid (Xc_4.out.below b)
    have WB_4 : Hid (BlkL wd8 (wd3.heap.size) [.slice cR1 (gLp (scO a0 l0 d0 s0 n0 c0 hub0 tip0 u1) a0).length cc1, .slice cR2 (gLp (scO a0 l0 d0 s0 n0 c0 hub0 tip0 u1) l0).length cc2, .slice cR3 (gLp (scO a0 l0 d0 s0 n0 c0 hub0 tip0 u1) d0).length cc3, .slice cR4 (gN (scO a0 l0 d0 s0 n0 c0 hub0 tip0 u1) n0) cc4, .int .i64 (gC (scO a0 l0 d0 s0 n0 c0 hub0 tip0 u1) c0), .float .f32 (gN (scO a0 l0 d0 s0 n0 c0 hub0 tip0 u1) (fop .mul .f32 (canon .f32 u1) (canon .f32 hub0))), .float .f32 (gN (scO a0 l0 d0 s0 n0 c0 hub0 tip0 u1) (fop .mul .f32 (canon .f32 u1) (canon .f32 tip0)))]) := Lib.hid (WB_3.out.below b)
    have Xx0_3 : Hid (OwnT wd8 wd4.heap.size (some ⟨x01, 0, none⟩) (some ⟨x02, 0, none⟩) (some ⟨x03, 0, none⟩) (some ⟨x04, 0, none⟩) x01 x02 x03 x04 a0 l0 d0 s0) := Lib.hid (Xx0_2.out.below b)
    have V0_2 : Hid (BlkL wd8 (wd5.heap.size) [.slice (some ⟨x01, 0, none⟩) a0.length a0.length, .slice (some ⟨x02, 0, none⟩) l0.length l0.length, .slice (some ⟨x03, 0, none⟩) d0.length d0.length, .slice (some ⟨x04, 0, none⟩) n0 n0, .int .i64 c0, .float .f32 hub0, .float .f32 tip0]) := Lib.hid (V0_1.out.below b)
    have Xg_1 : Hid (OwnT wd8 wd6.heap.size gR1 gR2 gR3 gR4 gg1 gg2 gg3 gg4 (gLp (scO a0 l0 d0 s0 n0 c0 hub0 tip0 u1) a0) (gLp (scO a0 l0 d0 s0 n0 c0 hub0 tip0 u1) l0) (gLp (scO a0 l0 d0 s0 n0 c0 hub0 tip0 u1) d0) (gLp (scO a0 l0 d0 s0 n0 c0 hub0 tip0 u1) (mp3 (scG u1) s0))) := Lib.hid (Xg.out.below b)
    have GB : Hid (BlkL wd8 (wd7.heap.size) [.slice gR1 (gLp (scO a0 l0 d0 s0 n0 c0 hub0 tip0 u1) a0).length gc1, .slice gR2 (gLp (scO a0 l0 d0 s0 n0 c0 hub0 tip0 u1) l0).length gc2, .slice gR3 (gLp (scO a0 l0 d0 s0 n0 c0 hub0 tip0 u1) d0).length gc3, .slice gR4 (gN (scO a0 l0 d0 s0 n0 c0 hub0 tip0 u1) n0) gc4, .int .i64 (gC (scO a0 l0 d0 s0 n0 c0 hub0 tip0 u1) c0), .float .f32 (gN (scO a0 l0 d0 s0 n0 c0 hub0 tip0 u1) (fop .mul .f32 (canon .f32 u1) (canon .f32 hub0))), .float .f32 (gN (scO a0 l0 d0 s0 n0 c0 hub0 tip0 u1) (fop .mul .f32 (canon .f32 u1) (canon .f32 tip0)))]) := Lib.hid (by rw [hw8]; exact blkL_at wd7 #[.slice gR1 (gLp (scO a0 l0 d0 s0 n0 c0 hub0 tip0 u1) a0).length gc1, .slice gR2 (gLp (scO a0 l0 d0 s0 n0 c0 hub0 tip0 u1) l0).length gc2, .slice gR3 (gLp (scO a0 l0 d0 s0 n0 c0 hub0 tip0 u1) d0).length gc3, .slice gR4 (gN (scO a0 l0 d0 s0 n0 c0 hub0 tip0 u1) n0) gc4, .int .i64 (gC (scO a0 l0 d0 s0 n0 c0 hub0 tip0 u1) c0), .float .f32 (gN (scO a0 l0 d0 s0 n0 c0 hub0 tip0 u1) (fop .mul .f32 (canon .f32 u1) (canon .f32 hub0))), .float .f32 (gN (scO a0 l0 d0 s0 n0 c0 hub0 tip0 u1) (fop .mul .f32 (canon .f32 u1) (canon .f32 tip0)))] 30 rfl)
    clear b
    have K0y0 := fun o => ((K0_7.out.alloc o).2 0 _ rfl).1
    have K0y1 := fun o => ((K0_7.out.alloc o).2 1 _ rfl).1
    have K0y2 := fun o => ((K0_7.out.alloc o).2 2 _ rfl).1
    have K0y3 := fun o => ((K0_7.out.alloc o).2 3 _ rfl).1
    have K0y4 := fun o => ((K0_7.out.alloc o).2 4 _ rfl).1
    have K0y5 := fun o => ((K0_7.out.alloc o).2 5 _ rfl).1
    have K0y6 := fun o => ((K0_7.out.alloc o).2 6 _ rfl).1
    have WBy0 := fun o => ((WB_3.out.alloc o).2 0 _ rfl).1
    have WBy1 := fun o => ((WB_3.out.alloc o).2 1 _ rfl).1
    have WBy2 := fun o => ((WB_3.out.alloc o).2 2 _ rfl).1
    have WBy3 := fun o => ((WB_3.out.alloc o).2 3 _ rfl).1
    have WBy4 := fun o => ((WB_3.out.alloc o).2 4 _ rfl).1
    have WBy5 := fun o => ((WB_3.out.alloc o).2 5 _ rfl).1
    have WBy6 := fun o => ((WB_3.out.alloc o).2 6 _ rfl).1
    have V0y0 := fun o => ((V0_1.out.alloc o).2 0 _ rfl).1
    have V0y1 := fun o => ((V0_1.out.alloc o).2 1 _ rfl).1
    have V0y2 := fun o => ((V0_1.out.alloc o).2 2 _ rfl).1
    have V0y3 := fun o => ((V0_1.out.alloc o).2 3 _ rfl).1
    have V0y4 := fun o => ((V0_1.out.alloc o).2 4 _ rfl).1
    have V0y5 := fun o => ((V0_1.out.alloc o).2 5 _ rfl).1
    have V0y6 := fun o => ((V0_1.out.alloc o).2 6 _ rfl).1
    go_wp2_with fail
    rw [← hw8]
    clear hw8
    clear K0y0 K0y1 K0y2 K0y3 K0y4 K0y5 K0y6 WBy0 WBy1 WBy2 WBy3 WBy4 WBy5 WBy6 V0y0 V0y1 V0y2 V0y3 V0y4 V0y5 V0y6
    clear K0_7 Xc_4 WB_3 Xx0_2 V0_1 Xg
    obtain ⟨K0x0, K0x1, K0x2, K0x3, K0x4, K0x5, K0x6⟩ := K0_8.out.sevenT
    obtain ⟨WBx0, WBx1, WBx2, WBx3, WBx4, WBx5, WBx6⟩ := WB_4.out.sevenT
    obtain ⟨V0x0, V0x1, V0x2, V0x3, V0x4, V0x5, V0x6⟩ := V0_2.out.sevenT
    obtain ⟨GBx0, GBx1, GBx2, GBx3, GBx4, GBx5, GBx6⟩ := GB.out.sevenT
    go_wp2_with fail
    refine (l_eqRotor _ _ _ _ _ _ _ _ _ _ _ _ _ _ _ _ _ _ _ _ (gLp (scO a0 l0 d0 s0 n0 c0 hub0 tip0 u1) a0) (gLp (scO a0 l0 d0 s0 n0 c0 hub0 tip0 u1) l0) (gLp (scO a0 l0 d0 s0 n0 c0 hub0 tip0 u1) d0) (gLp (scO a0 l0 d0 s0 n0 c0 hub0 tip0 u1) (mp3 (scG u1) s0)) _ Xg_1.out.rt Xc_5.out.rt HF.out).mono ?_
    rintro e wd9 ⟨rfl, b⟩
    have B9 : Hid (Below w.heap.size w wd9) := Lib.hid (below_of B8.out B8.out.size b)
    have Z9 : Hid (wd8.heap.size ≤ wd9.heap.size) := Lib.hid b.size
    have K0_9 : Hid (BlkL wd9 (w.heap.size) [.slice A0 a0.length ca0, .slice L0 l0.length cl0, .slice D0 d0.length cd0, .slice S0 n0 cs0, .int .i64 c0, .float .f32 hub0, .float .f32 tip0]) := Lib.hid (K0_8.out.below b)
    have Xc_6 : Hid (OwnT wd9 wd2.heap.size cR1 cR2 cR3 cR4 cg1 cg2 cg3 cg4 (gLp (scO a0 l0 d0 s0 n0 c0 hub0 tip0 u1) a0) (gLp (scO a0 l0 d0 s0 n0 c0 hub0 tip0 u1) l0) (gLp (scO a0 l0 d0 s0 n0 c0 hub0 tip0 u1) d0) (gLp (scO a0 l0 d0 s0 n0 c0 hub0 tip0 u1) (mp3 (scG u1) s0))) := Lib.hid (Xc_5.out.below b)
    have WB_5 : Hid (BlkL wd9 (wd3.heap.size) [.slice cR1 (gLp (scO a0 l0 d0 s0 n0 c0 hub0 tip0 u1) a0).length cc1, .slice cR2 (gLp (scO a0 l0 d0 s0 n0 c0 hub0 tip0 u1) l0).length cc2, .slice cR3 (gLp (scO a0 l0 d0 s0 n0 c0 hub0 tip0 u1) d0).length cc3, .slice cR4 (gN (scO a0 l0 d0 s0 n0 c0 hub0 tip0 u1) n0) cc4, .int .i64 (gC (scO a0 l0 d0 s0 n0 c0 hub0 tip0 u1) c0), .float .f32 (gN (scO a0 l0 d0 s0 n0 c0 hub0 tip0 u1) (fop .mul .f32 (canon .f32 u1) (canon .f32 hub0))), .float .f32 (gN (scO a0 l0 d0 s0 n0 c0 hub0 tip0 u1) (fop .mul .f32 (canon .f32 u1) (canon .f32 tip0)))]) := Lib.hid (WB_4.out.below b)
    have Xx0_4 : Hid (OwnT wd9 wd4.heap.size (some ⟨x01, 0, none⟩) (some ⟨x02, 0, none⟩) (some ⟨x03, 0, none⟩) (some ⟨x04, 0, none⟩) x01 x02 x03 x04 a0 l0 d0 s0) := Lib.hid (Xx0_3.out.below b)
    have V0_3 : Hid (BlkL wd9 (wd5.heap.size) [.slice (some ⟨x01, 0, none⟩) a0.length a0.length, .slice (some ⟨x02, 0, none⟩) l0.length l0.length, .slice (some ⟨x03, 0, none⟩) d0.length d0.length, .slice (some ⟨x04, 0, none⟩) n0 n0, .int .i64 c0, .float .f32 hub0, .float .f32 tip0]) := Lib.hid (V0_2.out.below b)
    have Xg_2 : Hid (OwnT wd9 wd6.heap.size gR1 gR2 gR3 gR4 gg1 gg2 gg3 gg4 (gLp (scO a0 l0 d0 s0 n0 c0 hub0 tip0 u1) a0) (gLp (scO a0 l0 d0 s0 n0 c0 hub0 tip0 u1) l0) (gLp (scO a0 l0 d0 s0 n0 c0 hub0 tip0 u1) d0) (gLp (scO a0 l0 d0 s0 n0 c0 hub0 tip0 u1) (mp3 (scG u1) s0))) := Lib.hid (Xg_1.out.below b)
    have GB_1 : Hid (BlkL wd9 (wd7.heap.size) [.slice gR1 (gLp (scO a0 l0 d0 s0 n0 c0 hub0 tip0 u1) a0).length gc1, .slice gR2 (gLp (scO a0 l0 d0 s0 n0 c0 hub0 tip0 u1) l0).length gc2, .slice gR3 (gLp (scO a0 l0 d0 s0 n0 c0 hub0 tip0 u1) d0).length gc3, .slice gR4 (gN (scO a0 l0 d0 s0 n0 c0 hub0 tip0 u1) n0) gc4, .int .i64 (gC (scO a0 l0 d0 s0 n0 c0 hub0 tip0 u1) c0), .float .f32 (gN (scO a0 l0 d0 s0 n0 c0 hub0 tip0 u1) (fop .mul .f32 (canon .f32 u1) (canon .f32 hub0))), .float .f32 (gN (scO a0 l0 d0 s0 n0 c0 hub0 tip0 u1) (fop .mul .f32 (canon .f32 u1) (canon .f32 tip0)))]) := Lib.hid (GB.out.below b)
    clear K0x0 K0x1 K0x2 K0x3 K0x4 K0x5 K0x6 WBx0 WBx1 WBx2 WBx3 WBx4 WBx5 WBx6 V0x0 V0x1 V0x2 V0x3 V0x4 V0x5 V0x6 GBx0 GBx1 GBx2 GBx3 GBx4 GBx5 GBx6
    clear K0_8 Xc_5 WB_4 Xx0_3 V0_2 Xg_1 GB
    clear b
    obtain ⟨K0x0, K0x1, K0x2, K0x3, K0x4, K0x5, K0x6⟩ := K0_9.out.sevenT
    obtain ⟨WBx0, WBx1, WBx2, WBx3, WBx4, WBx5, WBx6⟩ := WB_5.out.sevenT
    obtain ⟨V0x0, V0x1, V0x2, V0x3, V0x4, V0x5, V0x6⟩ := V0_3.out.sevenT
    obtain ⟨GBx0, GBx1, GBx2, GBx3, GBx4, GBx5, GBx6⟩ := GB_1.out.sevenT
    go_wp2_with fail
    clear K0x0 K0x1 K0x2 K0x3 K0x4 K0x5 K0x6 WBx0 WBx1 WBx2 WBx3 WBx4 WBx5 WBx6 V0x0 V0x1 V0x2 V0x3 V0x4 V0x5 V0x6 GBx0 GBx1 GBx2 GBx3 GBx4 GBx5 GBx6
    refine wp_region_inv4 (fun iq wv v => match iq with
      | 0 => v = .agg #[.slice (some ⟨x01, 0, none⟩) a0.length a0.length, .slice (some ⟨x02, 0, none⟩) l0.length l0.length, .slice (some ⟨x03, 0, none⟩) d0.length d0.length, .slice (some ⟨x04, 0, none⟩) n0 n0, .int .i64 c0, .float .f32 hub0, .float .f32 tip0]
      | 1 => v = .agg #[.slice A0 a0.length ca0, .slice L0 l0.length cl0, .slice D0 d0.length cd0, .slice S0 n0 cs0, .int .i64 c0, .float .f32 hub0, .float .f32 tip0]
      | 2 => ∃ q1 q2 q3 q4, v = .agg #[.slice (some ⟨q1, 0, none⟩) a0.length a0.length, .slice (some ⟨q2, 0, none⟩) l0.length l0.length, .slice (some ⟨q3, 0, none⟩) d0.length d0.length, .slice (some ⟨q4, 0, none⟩) n0 n0, .int .i64 c0, .float .f32 hub0, .float .f32 tip0] ∧ OwnT wv wd9.heap.size (some ⟨q1, 0, none⟩) (some ⟨q2, 0, none⟩) (some ⟨q3, 0, none⟩) (some ⟨q4, 0, none⟩) q1 q2 q3 q4 a0 l0 d0 s0
      | 3 => v = .bool true
      | 4 => v = .bool false
      | _ => False) (fun _ ww => Below wd9.heap.size wd9 ww) (fun w w' => Below w.heap.size w w') ?hmono (by kernel_rfl) (by kernel_rfl) ((Below.refl _ _).drew) ?hop ?hend
    case hmono =>
      intro i wa wb v hR hV
      rcases i with _ | _ | _ | _ | _ | i
      · exact hV
      · exact hV
      · obtain ⟨q1, q2, q3, q4, rfl, ho⟩ := hV; exact ⟨q1, q2, q3, q4, rfl, ho.below hR⟩
      · exact hV
      · exact hV
      · exact hV
    case hop =>
      intro q o hq listed act w3 hI hnot hcl hall
      have hB := hI.cls
      obtain ⟨K0x0, K0x1, K0x2, K0x3, K0x4, K0x5, K0x6⟩ := (K0_9.out.below hB).sevenT
      obtain ⟨WBx0, WBx1, WBx2, WBx3, WBx4, WBx5, WBx6⟩ := (WB_5.out.below hB).sevenT
      obtain ⟨V0x0, V0x1, V0x2, V0x3, V0x4, V0x5, V0x6⟩ := (V0_3.out.below hB).sevenT
      obtain ⟨GBx0, GBx1, GBx2, GBx3, GBx4, GBx5, GBx6⟩ := (GB_1.out.below hB).sevenT
      rcases q with _ | _ | _ | _ | _ | q
      · simp at hq; subst hq
        have g8 : act.tmps[8]?.getD undef = .pointer (some ⟨wd5.heap.size, 0, none⟩) := hI.kept 8 (by kernel_rfl)
        clear hI hall hnot hcl
        refine .inl ⟨wanted_none rfl, ?_⟩
        unfold Oper.wp
        go_simp
        all_goals first | exact ⟨_, rfl, Below.refl _ _, rfl, hB⟩ | exact ⟨Below.refl _ _, hB⟩ | exact Below.refl _ _
      · simp at hq; subst hq
        have g2 : act.tmps[2]?.getD undef = .pointer (some ⟨w.heap.size, 0, none⟩) := hI.kept 2 (by kernel_rfl)
        clear hI hall hnot hcl
        refine .inl ⟨wanted_none rfl, ?_⟩
        unfold Oper.wp
        go_simp
        all_goals first | exact ⟨_, rfl, Below.refl _ _, rfl, hB⟩ | exact ⟨Below.refl _ _, hB⟩ | exact Below.refl _ _
      · simp at hq; subst hq
        have g46 : act.tmps[46]?.getD undef = .agg #[.slice A0 a0.length ca0, .slice L0 l0.length cl0, .slice D0 d0.length cd0, .slice S0 n0 cs0, .int .i64 c0, .float .f32 hub0, .float .f32 tip0] := hI.has 1 46 rfl (hall ⟨1, .data⟩ (by simp) rfl)
        clear hI hall hnot hcl
        refine .inl ⟨wanted_none rfl, ?_⟩
        unfold Oper.wp
        go_simp
        refine (l_toRotor A0 L0 D0 S0 ca0 cl0 cd0 n0 cs0 c0 hub0 tip0 a0 l0 d0 s0 _ (HP0.out.below (below_of B9.out B9.out.size hB)) HN0.out).mono ?_
        rintro e w4 ⟨q1, q2, q3, q4, rfl, ho, b4⟩
        exact ⟨_, rfl, b4, ⟨q1, q2, q3, q4, rfl, (OwnR.t ho).baseT (by have := hB.size; omega)⟩, below_of hB hB.size b4⟩
      · simp at hq; subst hq
        have g45 : act.tmps[45]?.getD undef = .agg #[.slice (some ⟨x01, 0, none⟩) a0.length a0.length, .slice (some ⟨x02, 0, none⟩) l0.length l0.length, .slice (some ⟨x03, 0, none⟩) d0.length d0.length, .slice (some ⟨x04, 0, none⟩) n0 n0, .int .i64 c0, .float .f32 hub0, .float .f32 tip0] := hI.has 0 45 rfl (hall ⟨0, .data⟩ (by simp) rfl)
        obtain ⟨q12, q22, q32, q42, g47, h2a⟩ := hI.has 2 47 rfl (hall ⟨2, .data⟩ (by simp) rfl)
        clear hI hall hnot hcl
        refine .inl ⟨wanted_none rfl, ?_⟩
        unfold Oper.wp
        go_simp
        refine (l_eqRotor _ _ _ _ _ _ _ _ _ _ _ _ _ _ _ _ _ _ _ _ a0 l0 d0 s0 _ (Xx0_4.out.below hB).rt h2a.rt HN0.out).mono ?_
        rintro e w4 ⟨rfl, b4⟩
        exact ⟨_, rfl, b4, rfl, below_of hB hB.size b4⟩
      · simp at hq; subst hq
        have g48 : act.tmps[48]?.getD undef = .bool true := hI.has 3 48 rfl (hall ⟨3, .data⟩ (by simp) rfl)
        clear hI hall hnot hcl
        refine .inl ⟨wanted_none rfl, ?_⟩
        unfold Oper.wp
        go_simp
        all_goals first | exact ⟨_, rfl, Below.refl _ _, rfl, hB⟩ | exact ⟨Below.refl _ _, hB⟩ | exact Below.refl _ _
      · simp at hq
    case hend =>
      intro listed act w3 hI hall
      have hB := hI.cls
      obtain ⟨K0x0, K0x1, K0x2, K0x3, K0x4, K0x5, K0x6⟩ := (K0_9.out.below hB).sevenT
      obtain ⟨WBx0, WBx1, WBx2, WBx3, WBx4, WBx5, WBx6⟩ := (WB_5.out.below hB).sevenT
      obtain ⟨V0x0, V0x1, V0x2, V0x3, V0x4, V0x5, V0x6⟩ := (V0_3.out.below hB).sevenT
      obtain ⟨GBx0, GBx1, GBx2, GBx3, GBx4, GBx5, GBx6⟩ := (GB_1.out.below hB).sevenT
      have g49 : act.tmps[49]?.getD undef = .bool false := hI.has 4 49 rfl (hall 4 (by decide))
      have g0 := hI.kept 0 (by kernel_rfl)
      conv at g0 => rhs; whnf
      have g1 := hI.kept 1 (by kernel_rfl)
      conv at g1 => rhs; whnf
      have g2 := hI.kept 2 (by kernel_rfl)
      conv at g2 => rhs; whnf
      have g3 : act.tmps[3]?.getD undef = undef := hI.kept 3 (by kernel_rfl)
      have g4 := hI.kept 4 (by kernel_rfl)
      conv at g4 => rhs; whnf
      have g5 := hI.kept 5 (by kernel_rfl)
      conv at g5 => rhs; whnf
      have g6 := hI.kept 6 (by kernel_rfl)
      conv at g6 => rhs; whnf
      have g7 := hI.kept 7 (by kernel_rfl)
      conv at g7 => rhs; whnf
      have g8 := hI.kept 8 (by kernel_rfl)
      conv at g8 => rhs; whnf
      have g9 := hI.kept 9 (by kernel_rfl)
      conv at g9 => rhs; whnf
      have g10 := hI.kept 10 (by kernel_rfl)
      conv at g10 => rhs; whnf
      have g11 : act.tmps[11]?.getD undef = undef := hI.kept 11 (by kernel_rfl)
      have g12 : act.tmps[12]?.getD undef = undef := hI.kept 12 (by kernel_rfl)
      have g13 : act.tmps[13]?.getD undef = undef := hI.kept 13 (by kernel_rfl)
      have g14 : act.tmps[14]?.getD undef = undef := hI.kept 14 (by kernel_rfl)
      have g15 : act.tmps[15]?.getD undef = undef := hI.kept 15 (by kernel_rfl)
      have g16 := hI.kept 16 (by kernel_rfl)
      conv at g16 => rhs; whnf
      have g17 := hI.kept 17 (by kernel_rfl)
      conv at g17 => rhs; whnf
      have g18 := hI.kept 18 (by kernel_rfl)
      conv at g18 => rhs; whnf
      have g19 := hI.kept 19 (by kernel_rfl)
      conv at g19 => rhs; whnf
      have g20 := hI.kept 20 (by kernel_rfl)
      conv at g20 => rhs; whnf
      have g21 := hI.kept 21 (by kernel_rfl)
      conv at g21 => rhs; whnf
      have g22 := hI.kept 22 (by kernel_rfl)
      conv at g22 => rhs; whnf
      have g23 := hI.kept 23 (by kernel_rfl)
      conv at g23 => rhs; whnf
      have g24 := hI.kept 24 (by kernel_rfl)
      conv at g24 => rhs; whnf
      have g25 := hI.kept 25 (by kernel_rfl)
      conv at g25 => rhs; whnf
      have g26 := hI.kept 26 (by kernel_rfl)
      conv at g26 => rhs; whnf
      have g27 := hI.kept 27 (by kernel_rfl)
      conv at g27 => rhs; whnf
      have g28 := hI.kept 28 (by kernel_rfl)
      conv at g28 => rhs; whnf
      have g29 := hI.kept 29 (by kernel_rfl)
      conv at g29 => rhs; whnf
      have g30 := hI.kept 30 (by kernel_rfl)
      conv at g30 => rhs; whnf
      have g31 := hI.kept 31 (by kernel_rfl)
      conv at g31 => rhs; whnf
      have g32 := hI.kept 32 (by kernel_rfl)
      conv at g32 => rhs; whnf
      have g33 := hI.kept 33 (by kernel_rfl)
      conv at g33 => rhs; whnf
      have g34 := hI.kept 34 (by kernel_rfl)
      conv at g34 => rhs; whnf
      have g35 := hI.kept 35 (by kernel_rfl)
      conv at g35 => rhs; whnf
      have g36 := hI.kept 36 (by kernel_rfl)
      conv at g36 => rhs; whnf
      have g37 := hI.kept 37 (by kernel_rfl)
      conv at g37 => rhs; whnf
      have g38 := hI.kept 38 (by kernel_rfl)
      conv at g38 => rhs; whnf
      have g39 := hI.kept 39 (by kernel_rfl)
      conv at g39 => rhs; whnf
      have g40 := hI.kept 40 (by kernel_rfl)
      conv at g40 => rhs; whnf
      have g41 := hI.kept 41 (by kernel_rfl)
      conv at g41 => rhs; whnf
      have g42 := hI.kept 42 (by kernel_rfl)
      conv at g42 => rhs; whnf
      have g43 := hI.kept 43 (by kernel_rfl)
      conv at g43 => rhs; whnf
      have g44 := hI.kept 44 (by kernel_rfl)
      conv at g44 => rhs; whnf
      have g50 : act.tmps[50]?.getD undef = undef := hI.kept 50 (by kernel_rfl)
      have g51 : act.tmps[51]?.getD undef = undef := hI.kept 51 (by kernel_rfl)
      have g52 : act.tmps[52]?.getD undef = undef := hI.kept 52 (by kernel_rfl)
      have g53 : act.tmps[53]?.getD undef = undef := hI.kept 53 (by kernel_rfl)
      have g54 : act.tmps[54]?.getD undef = undef := hI.kept 54 (by kernel_rfl)
      have g55 : act.tmps[55]?.getD undef = undef := hI.kept 55 (by kernel_rfl)
      have g56 : act.tmps[56]?.getD undef = undef := hI.kept 56 (by kernel_rfl)
      have g57 : act.tmps[57]?.getD undef = undef := hI.kept 57 (by kernel_rfl)
      have g58 : act.tmps[58]?.getD undef = undef := hI.kept 58 (by kernel_rfl)
      have g59 : act.tmps[59]?.getD undef = undef := hI.kept 59 (by kernel_rfl)
      have g60 : act.tmps[60]?.getD undef = undef := hI.kept 60 (by kernel_rfl)
      have g61 : act.tmps[61]?.getD undef = undef := hI.kept 61 (by kernel_rfl)
      have g62 : act.tmps[62]?.getD undef = undef := hI.kept 62 (by kernel_rfl)
      have g63 : act.tmps[63]?.getD undef = undef := hI.kept 63 (by kernel_rfl)
      have g64 : act.tmps[64]?.getD undef = undef := hI.kept 64 (by kernel_rfl)
      have g65 : act.tmps[65]?.getD undef = undef := hI.kept 65 (by kernel_rfl)
      have g66 : act.tmps[66]?.getD undef = undef := hI.kept 66 (by kernel_rfl)
      have g67 : act.tmps[67]?.getD undef = undef := hI.kept 67 (by kernel_rfl)
      have g68 : act.tmps[68]?.getD undef = undef := hI.kept 68 (by kernel_rfl)
      have g69 : act.tmps[69]?.getD undef = undef := hI.kept 69 (by kernel_rfl)
      have g70 : act.tmps[70]?.getD undef = undef := hI.kept 70 (by kernel_rfl)
      have g71 : act.tmps[71]?.getD undef = undef := hI.kept 71 (by kernel_rfl)
      have g72 : act.tmps[72]?.getD undef = undef := hI.kept 72 (by kernel_rfl)
      have g73 : act.tmps[73]?.getD undef = undef := hI.kept 73 (by kernel_rfl)
      have g74 : act.tmps[74]?.getD undef = undef := hI.kept 74 (by kernel_rfl)
      have g75 : act.tmps[75]?.getD undef = undef := hI.kept 75 (by kernel_rfl)
      have g76 : act.tmps[76]?.getD undef = undef := hI.kept 76 (by kernel_rfl)
      have g77 : act.tmps[77]?.getD undef = undef := hI.kept 77 (by kernel_rfl)
      have g78 : act.tmps[78]?.getD undef = undef := hI.kept 78 (by kernel_rfl)
      have g79 : act.tmps[79]?.getD undef = undef := hI.kept 79 (by kernel_rfl)
      have g80 : act.tmps[80]?.getD undef = undef := hI.kept 80 (by kernel_rfl)
      have g81 : act.tmps[81]?.getD undef = undef := hI.kept 81 (by kernel_rfl)
      have g82 : act.tmps[82]?.getD undef = undef := hI.kept 82 (by kernel_rfl)
      have g83 : act.tmps[83]?.getD undef = undef := hI.kept 83 (by kernel_rfl)
      have g84 : act.tmps[84]?.getD undef = undef := hI.kept 84 (by kernel_rfl)
      have g85 : act.tmps[85]?.getD undef = undef := hI.kept 85 (by kernel_rfl)
      have g86 : act.tmps[86]?.getD undef = undef := hI.kept 86 (by kernel_rfl)
      have g87 : act.tmps[87]?.getD undef = undef := hI.kept 87 (by kernel_rfl)
      have g88 : act.tmps[88]?.getD undef = undef := hI.kept 88 (by kernel_rfl)
      have g89 : act.tmps[89]?.getD undef = undef := hI.kept 89 (by kernel_rfl)
      have g90 : act.tmps[90]?.getD undef = undef := hI.kept 90 (by kernel_rfl)
      have g91 : act.tmps[91]?.getD undef = undef := hI.kept 91 (by kernel_rfl)
      have g92 : act.tmps[92]?.getD undef = undef := hI.kept 92 (by kernel_rfl)
      have g93 : act.tmps[93]?.getD undef = undef := hI.kept 93 (by kernel_rfl)
      have g94 : act.tmps[94]?.getD undef = undef := hI.kept 94 (by kernel_rfl)
      have g95 : act.tmps[95]?.getD undef = undef := hI.kept 95 (by kernel_rfl)
      have g96 : act.tmps[96]?.getD undef = undef := hI.kept 96 (by kernel_rfl)
      have g97 : act.tmps[97]?.getD undef = undef := hI.kept 97 (by kernel_rfl)
      have g98 : act.tmps[98]?.getD undef = undef := hI.kept 98 (by kernel_rfl)
      have g99 : act.tmps[99]?.getD undef = undef := hI.kept 99 (by kernel_rfl)
      have g100 : act.tmps[100]?.getD undef = undef := hI.kept 100 (by kernel_rfl)
      have hsz : act.tmps.size = 101 := hI.size.trans (by kernel_rfl)
      have hd := hI.defers
      clear hI hall K0x0 K0x1 K0x2 K0x3 K0x4 K0x5 K0x6 WBx0 WBx1 WBx2 WBx3 WBx4 WBx5 WBx6 V0x0 V0x1 V0x2 V0x3 V0x4 V0x5 V0x6 GBx0 GBx1 GBx2 GBx3 GBx4 GBx5 GBx6
      obtain ⟨tt, dd⟩ := act
      simp only at g0 g1 g2 g3 g4 g5 g6 g7 g8 g9 g10 g11 g12 g13 g14 g15 g16 g17 g18 g19 g20 g21 g22 g23 g24 g25 g26 g27 g28 g29 g30 g31 g32 g33 g34 g35 g36 g37 g38 g39 g40 g41 g42 g43 g44 g49 g50 g51 g52 g53 g54 g55 g56 g57 g58 g59 g60 g61 g62 g63 g64 g65 g66 g67 g68 g69 g70 g71 g72 g73 g74 g75 g76 g77 g78 g79 g80 g81 g82 g83 g84 g85 g86 g87 g88 g89 g90 g91 g92 g93 g94 g95 g96 g97 g98 g99 g100 hsz hd
      subst hd
      have hl : tt = #[tt[0]?.getD undef, tt[1]?.getD undef, tt[2]?.getD undef, tt[3]?.getD undef, tt[4]?.getD undef, tt[5]?.getD undef, tt[6]?.getD undef, tt[7]?.getD undef, tt[8]?.getD undef, tt[9]?.getD undef, tt[10]?.getD undef, tt[11]?.getD undef, tt[12]?.getD undef, tt[13]?.getD undef, tt[14]?.getD undef, tt[15]?.getD undef, tt[16]?.getD undef, tt[17]?.getD undef, tt[18]?.getD undef, tt[19]?.getD undef, tt[20]?.getD undef, tt[21]?.getD undef, tt[22]?.getD undef, tt[23]?.getD undef, tt[24]?.getD undef, tt[25]?.getD undef, tt[26]?.getD undef, tt[27]?.getD undef, tt[28]?.getD undef, tt[29]?.getD undef, tt[30]?.getD undef, tt[31]?.getD undef, tt[32]?.getD undef, tt[33]?.getD undef, tt[34]?.getD undef, tt[35]?.getD undef, tt[36]?.getD undef, tt[37]?.getD undef, tt[38]?.getD undef, tt[39]?.getD undef, tt[40]?.getD undef, tt[41]?.getD undef, tt[42]?.getD undef, tt[43]?.getD undef, tt[44]?.getD undef, tt[45]?.getD undef, tt[46]?.getD undef, tt[47]?.getD undef, tt[48]?.getD undef, tt[49]?.getD undef, tt[50]?.getD undef, tt[51]?.getD undef, tt[52]?.getD undef, tt[53]?.getD undef, tt[54]?.getD undef, tt[55]?.getD undef, tt[56]?.getD undef, tt[57]?.getD undef, tt[58]?.getD undef, tt[59]?.getD undef, tt[60]?.getD undef, tt[61]?.getD undef, tt[62]?.getD undef, tt[63]?.getD undef, tt[64]?.getD undef, tt[65]?.getD undef, tt[66]?.getD undef, tt[67]?.getD undef, tt[68]?.getD undef, tt[69]?.getD undef, tt[70]?.getD undef, tt[71]?.getD undef, tt[72]?.getD undef, tt[73]?.getD undef, tt[74]?.getD undef, tt[75]?.getD undef, tt[76]?.getD undef, tt[77]?.getD undef, tt[78]?.getD undef, tt[79]?.getD undef, tt[80]?.getD undef, tt[81]?.getD undef, tt[82]?.getD undef, tt[83]?.getD undef, tt[84]?.getD undef, tt[85]?.getD undef, tt[86]?.getD undef, tt[87]?.getD undef, tt[88]?.getD undef, tt[89]?.getD undef, tt[90]?.getD undef, tt[91]?.getD undef, tt[92]?.getD undef, tt[93]?.getD undef, tt[94]?.getD undef, tt[95]?.getD undef, tt[96]?.getD undef, tt[97]?.getD undef, tt[98]?.getD undef, tt[99]?.getD undef, tt[100]?.getD undef] := (arr_lit hsz).trans rfl
      rw [g0, g1, g2, g3, g4, g5, g6, g7, g8, g9, g10, g11, g12, g13, g14, g15, g16, g17, g18, g19, g20, g21, g22, g23, g24, g25, g26, g27, g28, g29, g30, g31, g32, g33, g34, g35, g36, g37, g38, g39, g40, g41, g42, g43, g44, g49, g50, g51, g52, g53, g54, g55, g56, g57, g58, g59, g60, g61, g62, g63, g64, g65, g66, g67, g68, g69, g70, g71, g72, g73, g74, g75, g76, g77, g78, g79, g80, g81, g82, g83, g84, g85, g86, g87, g88, g89, g90, g91, g92, g93, g94, g95, g96, g97, g98, g99, g100] at hl
      clear g0 g1 g2 g3 g4 g5 g6 g7 g8 g9 g10 g11 g12 g13 g14 g15 g16 g17 g18 g19 g20 g21 g22 g23 g24 g25 g26 g27 g28 g29 g30 g31 g32 g33 g34 g35 g36 g37 g38 g39 g40 g41 g42 g43 g44 g49 g50 g51 g52 g53 g54 g55 g56 g57 g58 g59 g60 g61 g62 g63 g64 g65 g66 g67 g68 g69 g70 g71 g72 g73 g74 g75 g76 g77 g78 g79 g80 g81 g82 g83 g84 g85 g86 g87 g88 g89 g90 g91 g92 g93 g94 g95 g96 g97 g98 g99 g100 hsz
      generalize tt[45]?.getD undef = y45 at hl
      generalize tt[46]?.getD undef = y46 at hl
      generalize tt[47]?.getD undef = y47 at hl
      generalize tt[48]?.getD undef = y48 at hl
      subst hl
      obtain ⟨wd10, hww⟩ : ∃ x, x = w3 := ⟨_, rfl⟩
      rw [← hww] at hB ⊢
      clear hww
      have B10 : Hid (Below w.heap.size w wd10) := Lib.hid (below_of B9.out B9.out.size hB)
      have Z10 : Hid (wd9.heap.size ≤ wd10.heap.size) := Lib.hid hB.size
      have K0_10 : Hid (BlkL wd10 (w.heap.size) [.slice A0 a0.length ca0, .slice L0 l0.length cl0, .slice D0 d0.length cd0, .slice S0 n0 cs0, .int .i64 c0, .float .f32 hub0, .float .f32 tip0]) := Lib.hid (K0_9.out.below hB)
      have Xc_7 : Hid (OwnT wd10 wd2.heap.size cR1 cR2 cR3 cR4 cg1 cg2 cg3 cg4 (gLp (scO a0 l0 d0 s0 n0 c0 hub0 tip0 u1) a0) (gLp (scO a0 l0 d0 s0 n0 c0 hub0 tip0 u1) l0) (gLp (scO a0 l0 d0 s0 n0 c0 hub0 tip0 u1) d0) (gLp (scO a0 l0 d0 s0 n0 c0 hub0 tip0 u1) (mp3 (scG u1) s0))) := Lib.hid (Xc_6.out.below hB)
      have WB_6 : Hid (BlkL wd10 (wd3.heap.size) [.slice cR1 (gLp (scO a0 l0 d0 s0 n0 c0 hub0 tip0 u1) a0).length cc1, .slice cR2 (gLp (scO a0 l0 d0 s0 n0 c0 hub0 tip0 u1) l0).length cc2, .slice cR3 (gLp (scO a0 l0 d0 s0 n0 c0 hub0 tip0 u1) d0).length cc3, .slice cR4 (gN (scO a0 l0 d0 s0 n0 c0 hub0 tip0 u1) n0) cc4, .int .i64 (gC (scO a0 l0 d0 s0 n0 c0 hub0 tip0 u1) c0), .float .f32 (gN (scO a0 l0 d0 s0 n0 c0 hub0 tip0 u1) (fop .mul .f32 (canon .f32 u1) (canon .f32 hub0))), .float .f32 (gN (scO a0 l0 d0 s0 n0 c0 hub0 tip0 u1) (fop .mul .f32 (canon .f32 u1) (canon .f32 tip0)))]) := Lib.hid (WB_5.out.below hB)
      have Xx0_5 : Hid (OwnT wd10 wd4.heap.size (some ⟨x01, 0, none⟩) (some ⟨x02, 0, none⟩) (some ⟨x03, 0, none⟩) (some ⟨x04, 0, none⟩) x01 x02 x03 x04 a0 l0 d0 s0) := Lib.hid (Xx0_4.out.below hB)
      have V0_4 : Hid (BlkL wd10 (wd5.heap.size) [.slice (some ⟨x01, 0, none⟩) a0.length a0.length, .slice (some ⟨x02, 0, none⟩) l0.length l0.length, .slice (some ⟨x03, 0, none⟩) d0.length d0.length, .slice (some ⟨x04, 0, none⟩) n0 n0, .int .i64 c0, .float .f32 hub0, .float .f32 tip0]) := Lib.hid (V0_3.out.below hB)
      have Xg_3 : Hid (OwnT wd10 wd6.heap.size gR1 gR2 gR3 gR4 gg1 gg2 gg3 gg4 (gLp (scO a0 l0 d0 s0 n0 c0 hub0 tip0 u1) a0) (gLp (scO a0 l0 d0 s0 n0 c0 hub0 tip0 u1) l0) (gLp (scO a0 l0 d0 s0 n0 c0 hub0 tip0 u1) d0) (gLp (scO a0 l0 d0 s0 n0 c0 hub0 tip0 u1) (mp3 (scG u1) s0))) := Lib.hid (Xg_2.out.below hB)
      have GB_2 : Hid (BlkL wd10 (wd7.heap.size) [.slice gR1 (gLp (scO a0 l0 d0 s0 n0 c0 hub0 tip0 u1) a0).length gc1, .slice gR2 (gLp (scO a0 l0 d0 s0 n0 c0 hub0 tip0 u1) l0).length gc2, .slice gR3 (gLp (scO a0 l0 d0 s0 n0 c0 hub0 tip0 u1) d0).length gc3, .slice gR4 (gN (scO a0 l0 d0 s0 n0 c0 hub0 tip0 u1) n0) gc4, .int .i64 (gC (scO a0 l0 d0 s0 n0 c0 hub0 tip0 u1) c0), .float .f32 (gN (scO a0 l0 d0 s0 n0 c0 hub0 tip0 u1) (fop .mul .f32 (canon .f32 u1) (canon .f32 hub0))), .float .f32 (gN (scO a0 l0 d0 s0 n0 c0 hub0 tip0 u1) (fop .mul .f32 (canon .f32 u1) (canon .f32 tip0)))]) := Lib.hid (GB_1.out.below hB)
      clear K0_9 Xc_6 WB_5 Xx0_4 V0_3 Xg_2 GB_1
      clear hB
      obtain ⟨K0x0, K0x1, K0x2, K0x3, K0x4, K0x5, K0x6⟩ := K0_10.out.sevenT
      obtain ⟨WBx0, WBx1, WBx2, WBx3, WBx4, WBx5, WBx6⟩ := WB_6.out.sevenT
      obtain ⟨V0x0, V0x1, V0x2, V0x3, V0x4, V0x5, V0x6⟩ := V0_4.out.sevenT
      obtain ⟨GBx0, GBx1, GBx2, GBx3, GBx4, GBx5, GBx6⟩ := GB_2.out.sevenT
      go_wp2_with fail
      refine (l_markRotor _ _ _ _ _ _ _ _ _ _ _ _ _ _ (1) _ _ _ a0 l0 d0 s0 _ (Xx0_5.out) HN0.out (by omega) _ (by omega)).mono ?_
      rintro e wd11 ⟨rfl, -, t⟩
      have B11 : Hid (Below w.heap.size w wd11) := Lib.hid (t.2.2.2 w B10.out (by intro b hh; have h1 := Xx0bd.out.bd hh; have := Z0.out; have := Z1.out; have := Z2.out; have := Z3.out; have := Z4.out; have := Y4.out; have := Z5.out; have := Z6.out; have := Y6.out; have := Z7.out; have := Z8.out; have := Y8.out; have := Z9.out; have := Z10.out; omega))
      have Z11 : Hid (wd10.heap.size ≤ wd11.heap.size) := Lib.hid t.1
      have K0_11 : Hid (BlkL wd11 (w.heap.size) [.slice A0 a0.length ca0, .slice L0 l0.length cl0, .slice D0 d0.length cd0, .slice S0 n0 cs0, .int .i64 c0, .float .f32 hub0, .float .f32 tip0]) := Lib.hid (K0_10.out.turnS t (by intro hh; have h1 := Xx0bd.out.bd hh; have := Z0.out; have := Z1.out; have := Z2.out; have := Z3.out; have := Z4.out; have := Y4.out; have := Z5.out; have := Z6.out; have := Y6.out; have := Z7.out; have := Z8.out; have := Y8.out; have := Z9.out; have := Z10.out; omega))
      have Xc_8 : Hid (OwnT wd11 wd2.heap.size cR1 cR2 cR3 cR4 cg1 cg2 cg3 cg4 (gLp (scO a0 l0 d0 s0 n0 c0 hub0 tip0 u1) a0) (gLp (scO a0 l0 d0 s0 n0 c0 hub0 tip0 u1) l0) (gLp (scO a0 l0 d0 s0 n0 c0 hub0 tip0 u1) d0) (gLp (scO a0 l0 d0 s0 n0 c0 hub0 tip0 u1) (mp3 (scG u1) s0))) := Lib.hid (Xc_7.out.turnS t (by intro c hc hh; have h1 := Xx0bd.out.bd hh; have h2 := Xcbd.out.bd hc; have := Z0.out; have := Z1.out; have := Z2.out; have := Z3.out; have := Z4.out; have := Y4.out; have := Z5.out; have := Z6.out; have := Y6.out; have := Z7.out; have := Z8.out; have := Y8.out; have := Z9.out; have := Z10.out; omega))
      have WB_7 : Hid (BlkL wd11 (wd3.heap.size) [.slice cR1 (gLp (scO a0 l0 d0 s0 n0 c0 hub0 tip0 u1) a0).length cc1, .slice cR2 (gLp (scO a0 l0 d0 s0 n0 c0 hub0 tip0 u1) l0).length cc2, .slice cR3 (gLp (scO a0 l0 d0 s0 n0 c0 hub0 tip0 u1) d0).length cc3, .slice cR4 (gN (scO a0 l0 d0 s0 n0 c0 hub0 tip0 u1) n0) cc4, .int .i64 (gC (scO a0 l0 d0 s0 n0 c0 hub0 tip0 u1) c0), .float .f32 (gN (scO a0 l0 d0 s0 n0 c0 hub0 tip0 u1) (fop .mul .f32 (canon .f32 u1) (canon .f32 hub0))), .float .f32 (gN (scO a0 l0 d0 s0 n0 c0 hub0 tip0 u1) (fop .mul .f32 (canon .f32 u1) (canon .f32 tip0)))]) := Lib.hid (WB_6.out.turnS t (by intro hh; have h1 := Xx0bd.out.bd hh; have := Z0.out; have := Z1.out; have := Z2.out; have := Z3.out; have := Z4.out; have := Y4.out; have := Z5.out; have := Z6.out; have := Y6.out; have := Z7.out; have := Z8.out; have := Y8.out; have := Z9.out; have := Z10.out; omega))
      have V0_5 : Hid (BlkL wd11 (wd5.heap.size) [.slice (some ⟨x01, 0, none⟩) a0.length a0.length, .slice (some ⟨x02, 0, none⟩) l0.length l0.length, .slice (some ⟨x03, 0, none⟩) d0.length d0.length, .slice (some ⟨x04, 0, none⟩) n0 n0, .int .i64 c0, .float .f32 hub0, .float .f32 tip0]) := Lib.hid (V0_4.out.turnS t (by intro hh; have h1 := Xx0bd.out.bd hh; have := Z0.out; have := Z1.out; have := Z2.out; have := Z3.out; have := Z4.out; have := Y4.out; have := Z5.out; have := Z6.out; have := Y6.out; have := Z7.out; have := Z8.out; have := Y8.out; have := Z9.out; have := Z10.out; omega))
      have Xg_4 : Hid (OwnT wd11 wd6.heap.size gR1 gR2 gR3 gR4 gg1 gg2 gg3 gg4 (gLp (scO a0 l0 d0 s0 n0 c0 hub0 tip0 u1) a0) (gLp (scO a0 l0 d0 s0 n0 c0 hub0 tip0 u1) l0) (gLp (scO a0 l0 d0 s0 n0 c0 hub0 tip0 u1) d0) (gLp (scO a0 l0 d0 s0 n0 c0 hub0 tip0 u1) (mp3 (scG u1) s0))) := Lib.hid (Xg_3.out.turnS t (by intro c hc hh; have h1 := Xx0bd.out.bd hh; have h2 := Xgbd.out.bd hc; have := Z0.out; have := Z1.out; have := Z2.out; have := Z3.out; have := Z4.out; have := Y4.out; have := Z5.out; have := Z6.out; have := Y6.out; have := Z7.out; have := Z8.out; have := Y8.out; have := Z9.out; have := Z10.out; omega))
      have GB_3 : Hid (BlkL wd11 (wd7.heap.size) [.slice gR1 (gLp (scO a0 l0 d0 s0 n0 c0 hub0 tip0 u1) a0).length gc1, .slice gR2 (gLp (scO a0 l0 d0 s0 n0 c0 hub0 tip0 u1) l0).length gc2, .slice gR3 (gLp (scO a0 l0 d0 s0 n0 c0 hub0 tip0 u1) d0).length gc3, .slice gR4 (gN (scO a0 l0 d0 s0 n0 c0 hub0 tip0 u1) n0) gc4, .int .i64 (gC (scO a0 l0 d0 s0 n0 c0 hub0 tip0 u1) c0), .float .f32 (gN (scO a0 l0 d0 s0 n0 c0 hub0 tip0 u1) (fop .mul .f32 (canon .f32 u1) (canon .f32 hub0))), .float .f32 (gN (scO a0 l0 d0 s0 n0 c0 hub0 tip0 u1) (fop .mul .f32 (canon .f32 u1) (canon .f32 tip0)))]) := Lib.hid (GB_2.out.turnS t (by intro hh; have h1 := Xx0bd.out.bd hh; have := Z0.out; have := Z1.out; have := Z2.out; have := Z3.out; have := Z4.out; have := Y4.out; have := Z5.out; have := Z6.out; have := Y6.out; have := Z7.out; have := Z8.out; have := Y8.out; have := Z9.out; have := Z10.out; omega))
      clear K0x0 K0x1 K0x2 K0x3 K0x4 K0x5 K0x6 WBx0 WBx1 WBx2 WBx3 WBx4 WBx5 WBx6 V0x0 V0x1 V0x2 V0x3 V0x4 V0x5 V0x6 GBx0 GBx1 GBx2 GBx3 GBx4 GBx5 GBx6
      clear K0_10 Xc_7 WB_6 V0_4 Xg_3 GB_2
      clear t
      have hk0 : (0 : Int) ≤ ((1 : Nat) : Int) + (a0.length : Int) + (l0.length : Int) + (d0.length : Int) + 3 * (n0 : Int) := by omega
      obtain ⟨K0x0, K0x1, K0x2, K0x3, K0x4, K0x5, K0x6⟩ := K0_11.out.sevenT
      obtain ⟨WBx0, WBx1, WBx2, WBx3, WBx4, WBx5, WBx6⟩ := WB_7.out.sevenT
      obtain ⟨V0x0, V0x1, V0x2, V0x3, V0x4, V0x5, V0x6⟩ := V0_5.out.sevenT
      obtain ⟨GBx0, GBx1, GBx2, GBx3, GBx4, GBx5, GBx6⟩ := GB_3.out.sevenT
      go_wp2_with fail
      refine (l_eqRotor _ _ _ _ _ _ _ _ _ _ _ _ _ _ _ _ _ _ _ _ (gLp (scO a0 l0 d0 s0 n0 c0 hub0 tip0 u1) a0) (gLp (scO a0 l0 d0 s0 n0 c0 hub0 tip0 u1) l0) (gLp (scO a0 l0 d0 s0 n0 c0 hub0 tip0 u1) d0) (gLp (scO a0 l0 d0 s0 n0 c0 hub0 tip0 u1) (mp3 (scG u1) s0)) _ Xg_4.out.rt Xc_8.out.rt HF.out).mono ?_
      rintro e wd12 ⟨rfl, b⟩
      have B12 : Hid (Below w.heap.size w wd12) := Lib.hid (below_of B11.out B11.out.size b)
      have Z12 : Hid (wd11.heap.size ≤ wd12.heap.size) := Lib.hid b.size
      have K0_12 : Hid (BlkL wd12 (w.heap.size) [.slice A0 a0.length ca0, .slice L0 l0.length cl0, .slice D0 d0.length cd0, .slice S0 n0 cs0, .int .i64 c0, .float .f32 hub0, .float .f32 tip0]) := Lib.hid (K0_11.out.below b)
      have Xc_9 : Hid (OwnT wd12 wd2.heap.size cR1 cR2 cR3 cR4 cg1 cg2 cg3 cg4 (gLp (scO a0 l0 d0 s0 n0 c0 hub0 tip0 u1) a0) (gLp (scO a0 l0 d0 s0 n0 c0 hub0 tip0 u1) l0) (gLp (scO a0 l0 d0 s0 n0 c0 hub0 tip0 u1) d0) (gLp (scO a0 l0 d0 s0 n0 c0 hub0 tip0 u1) (mp3 (scG u1) s0))) := Lib.hid (Xc_8.out.below b)
      have WB_8 : Hid (BlkL wd12 (wd3.heap.size) [.slice cR1 (gLp (scO a0 l0 d0 s0 n0 c0 hub0 tip0 u1) a0).length cc1, .slice cR2 (gLp (scO a0 l0 d0 s0 n0 c0 hub0 tip0 u1) l0).length cc2, .slice cR3 (gLp (scO a0 l0 d0 s0 n0 c0 hub0 tip0 u1) d0).length cc3, .slice cR4 (gN (scO a0 l0 d0 s0 n0 c0 hub0 tip0 u1) n0) cc4, .int .i64 (gC (scO a0 l0 d0 s0 n0 c0 hub0 tip0 u1) c0), .float .f32 (gN (scO a0 l0 d0 s0 n0 c0 hub0 tip0 u1) (fop .mul .f32 (canon .f32 u1) (canon .f32 hub0))), .float .f32 (gN (scO a0 l0 d0 s0 n0 c0 hub0 tip0 u1) (fop .mul .f32 (canon .f32 u1) (canon .f32 tip0)))]) := Lib.hid (WB_7.out.below b)
      have V0_6 : Hid (BlkL wd12 (wd5.heap.size) [.slice (some ⟨x01, 0, none⟩) a0.length a0.length, .slice (some ⟨x02, 0, none⟩) l0.length l0.length, .slice (some ⟨x03, 0, none⟩) d0.length d0.length, .slice (some ⟨x04, 0, none⟩) n0 n0, .int .i64 c0, .float .f32 hub0, .float .f32 tip0]) := Lib.hid (V0_5.out.below b)
      have Xg_5 : Hid (OwnT wd12 wd6.heap.size gR1 gR2 gR3 gR4 gg1 gg2 gg3 gg4 (gLp (scO a0 l0 d0 s0 n0 c0 hub0 tip0 u1) a0) (gLp (scO a0 l0 d0 s0 n0 c0 hub0 tip0 u1) l0) (gLp (scO a0 l0 d0 s0 n0 c0 hub0 tip0 u1) d0) (gLp (scO a0 l0 d0 s0 n0 c0 hub0 tip0 u1) (mp3 (scG u1) s0))) := Lib.hid (Xg_4.out.below b)
      have GB_4 : Hid (BlkL wd12 (wd7.heap.size) [.slice gR1 (gLp (scO a0 l0 d0 s0 n0 c0 hub0 tip0 u1) a0).length gc1, .slice gR2 (gLp (scO a0 l0 d0 s0 n0 c0 hub0 tip0 u1) l0).length gc2, .slice gR3 (gLp (scO a0 l0 d0 s0 n0 c0 hub0 tip0 u1) d0).length gc3, .slice gR4 (gN (scO a0 l0 d0 s0 n0 c0 hub0 tip0 u1) n0) gc4, .int .i64 (gC (scO a0 l0 d0 s0 n0 c0 hub0 tip0 u1) c0), .float .f32 (gN (scO a0 l0 d0 s0 n0 c0 hub0 tip0 u1) (fop .mul .f32 (canon .f32 u1) (canon .f32 hub0))), .float .f32 (gN (scO a0 l0 d0 s0 n0 c0 hub0 tip0 u1) (fop .mul .f32 (canon .f32 u1) (canon .f32 tip0)))]) := Lib.hid (GB_3.out.below b)
      clear K0x0 K0x1 K0x2 K0x3 K0x4 K0x5 K0x6 WBx0 WBx1 WBx2 WBx3 WBx4 WBx5 WBx6 V0x0 V0x1 V0x2 V0x3 V0x4 V0x5 V0x6 GBx0 GBx1 GBx2 GBx3 GBx4 GBx5 GBx6
      clear K0_11 Xc_8 WB_7 V0_5 Xg_4 GB_3
      clear b
      obtain ⟨K0x0, K0x1, K0x2, K0x3, K0x4, K0x5, K0x6⟩ := K0_12.out.sevenT
      obtain ⟨WBx0, WBx1, WBx2, WBx3, WBx4, WBx5, WBx6⟩ := WB_8.out.sevenT
      obtain ⟨V0x0, V0x1, V0x2, V0x3, V0x4, V0x5, V0x6⟩ := V0_6.out.sevenT
      obtain ⟨GBx0, GBx1, GBx2, GBx3, GBx4, GBx5, GBx6⟩ := GB_4.out.sevenT
      go_wp2_with fail
      refine (l_markRotor _ _ _ _ _ _ _ _ _ _ _ _ _ _ 1 _ _ _ (gLp (scO a0 l0 d0 s0 n0 c0 hub0 tip0 u1) a0) (gLp (scO a0 l0 d0 s0 n0 c0 hub0 tip0 u1) l0) (gLp (scO a0 l0 d0 s0 n0 c0 hub0 tip0 u1) d0) (gLp (scO a0 l0 d0 s0 n0 c0 hub0 tip0 u1) (mp3 (scG u1) s0)) _ (Xg_5.out) HF.out (by omega) _ rfl).mono ?_
      rintro e wd13 ⟨rfl, om0, t⟩
      have om : OwnT wd13 wd6.heap.size gR1 gR2 gR3 gR4 gg1 gg2 gg3 gg4 (marks 1 (gLp (scO a0 l0 d0 s0 n0 c0 hub0 tip0 u1) a0).length) (marks (1 + (gLp (scO a0 l0 d0 s0 n0 c0 hub0 tip0 u1) a0).length) (gLp (scO a0 l0 d0 s0 n0 c0 hub0 tip0 u1) l0).length) (marks (1 + (gLp (scO a0 l0 d0 s0 n0 c0 hub0 tip0 u1) a0).length + (gLp (scO a0 l0 d0 s0 n0 c0 hub0 tip0 u1) l0).length) (gLp (scO a0 l0 d0 s0 n0 c0 hub0 tip0 u1) d0).length) (marks (1 + (gLp (scO a0 l0 d0 s0 n0 c0 hub0 tip0 u1) a0).length + (gLp (scO a0 l0 d0 s0 n0 c0 hub0 tip0 u1) l0).length + (gLp (scO a0 l0 d0 s0 n0 c0 hub0 tip0 u1) d0).length) ((gN (scO a0 l0 d0 s0 n0 c0 hub0 tip0 u1) n0) * 3)) := by rw [HF.out.1] at om0; exact om0
      clear om0
      have B13 : Hid (Below w.heap.size w wd13) := Lib.hid (t.2.2.2 w B12.out (by intro b hh; have h1 := Xgbd.out.bd hh; have := Z0.out; have := Z1.out; have := Z2.out; have := Z3.out; have := Z4.out; have := Y4.out; have := Z5.out; have := Z6.out; have := Y6.out; have := Z7.out; have := Z8.out; have := Y8.out; have := Z9.out; have := Z10.out; have := Z11.out; have := Z12.out; omega))
      have Z13 : Hid (wd12.heap.size ≤ wd13.heap.size) := Lib.hid t.1
      have K0_13 : Hid (BlkL wd13 (w.heap.size) [.slice A0 a0.length ca0, .slice L0 l0.length cl0, .slice D0 d0.length cd0, .slice S0 n0 cs0, .int .i64 c0, .float .f32 hub0, .float .f32 tip0]) := Lib.hid (K0_12.out.turnS t (by intro hh; have h1 := Xgbd.out.bd hh; have := Z0.out; have := Z1.out; have := Z2.out; have := Z3.out; have := Z4.out; have := Y4.out; have := Z5.out; have := Z6.out; have := Y6.out; have := Z7.out; have := Z8.out; have := Y8.out; have := Z9.out; have := Z10.out; have := Z11.out; have := Z12.out; omega))
      have Xc_10 : Hid (OwnT wd13 wd2.heap.size cR1 cR2 cR3 cR4 cg1 cg2 cg3 cg4 (gLp (scO a0 l0 d0 s0 n0 c0 hub0 tip0 u1) a0) (gLp (scO a0 l0 d0 s0 n0 c0 hub0 tip0 u1) l0) (gLp (scO a0 l0 d0 s0 n0 c0 hub0 tip0 u1) d0) (gLp (scO a0 l0 d0 s0 n0 c0 hub0 tip0 u1) (mp3 (scG u1) s0))) := Lib.hid (Xc_9.out.turnS t (by intro c hc hh; have h1 := Xgbd.out.bd hh; have h2 := Xcbd.out.bd hc; have := Z0.out; have := Z1.out; have := Z2.out; have := Z3.out; have := Z4.out; have := Y4.out; have := Z5.out; have := Z6.out; have := Y6.out; have := Z7.out; have := Z8.out; have := Y8.out; have := Z9.out; have := Z10.out; have := Z11.out; have := Z12.out; omega))
      have WB_9 : Hid (BlkL wd13 (wd3.heap.size) [.slice cR1 (gLp (scO a0 l0 d0 s0 n0 c0 hub0 tip0 u1) a0).length cc1, .slice cR2 (gLp (scO a0 l0 d0 s0 n0 c0 hub0 tip0 u1) l0).length cc2, .slice cR3 (gLp (scO a0 l0 d0 s0 n0 c0 hub0 tip0 u1) d0).length cc3, .slice cR4 (gN (scO a0 l0 d0 s0 n0 c0 hub0 tip0 u1) n0) cc4, .int .i64 (gC (scO a0 l0 d0 s0 n0 c0 hub0 tip0 u1) c0), .float .f32 (gN (scO a0 l0 d0 s0 n0 c0 hub0 tip0 u1) (fop .mul .f32 (canon .f32 u1) (canon .f32 hub0))), .float .f32 (gN (scO a0 l0 d0 s0 n0 c0 hub0 tip0 u1) (fop .mul .f32 (canon .f32 u1) (canon .f32 tip0)))]) := Lib.hid (WB_8.out.turnS t (by intro hh; have h1 := Xgbd.out.bd hh; have := Z0.out; have := Z1.out; have := Z2.out; have := Z3.out; have := Z4.out; have := Y4.out; have := Z5.out; have := Z6.out; have := Y6.out; have := Z7.out; have := Z8.out; have := Y8.out; have := Z9.out; have := Z10.out; have := Z11.out; have := Z12.out; omega))
      have V0_7 : Hid (BlkL wd13 (wd5.heap.size) [.slice (some ⟨x01, 0, none⟩) a0.length a0.length, .slice (some ⟨x02, 0, none⟩) l0.length l0.length, .slice (some ⟨x03, 0, none⟩) d0.length d0.length, .slice (some ⟨x04, 0, none⟩) n0 n0, .int .i64 c0, .float .f32 hub0, .float .f32 tip0]) := Lib.hid (V0_6.out.turnS t (by intro hh; have h1 := Xgbd.out.bd hh; have := Z0.out; have := Z1.out; have := Z2.out; have := Z3.out; have := Z4.out; have := Y4.out; have := Z5.out; have := Z6.out; have := Y6.out; have := Z7.out; have := Z8.out; have := Y8.out; have := Z9.out; have := Z10.out; have := Z11.out; have := Z12.out; omega))
      have GB_5 : Hid (BlkL wd13 (wd7.heap.size) [.slice gR1 (gLp (scO a0 l0 d0 s0 n0 c0 hub0 tip0 u1) a0).length gc1, .slice gR2 (gLp (scO a0 l0 d0 s0 n0 c0 hub0 tip0 u1) l0).length gc2, .slice gR3 (gLp (scO a0 l0 d0 s0 n0 c0 hub0 tip0 u1) d0).length gc3, .slice gR4 (gN (scO a0 l0 d0 s0 n0 c0 hub0 tip0 u1) n0) gc4, .int .i64 (gC (scO a0 l0 d0 s0 n0 c0 hub0 tip0 u1) c0), .float .f32 (gN (scO a0 l0 d0 s0 n0 c0 hub0 tip0 u1) (fop .mul .f32 (canon .f32 u1) (canon .f32 hub0))), .float .f32 (gN (scO a0 l0 d0 s0 n0 c0 hub0 tip0 u1) (fop .mul .f32 (canon .f32 u1) (canon .f32 tip0)))]) := Lib.hid (GB_4.out.turnS t (by intro hh; have h1 := Xgbd.out.bd hh; have := Z0.out; have := Z1.out; have := Z2.out; have := Z3.out; have := Z4.out; have := Y4.out; have := Z5.out; have := Z6.out; have := Y6.out; have := Z7.out; have := Z8.out; have := Y8.out; have := Z9.out; have := Z10.out; have := Z11.out; have := Z12.out; omega))
      have XM : Hid (OwnT wd13 wd6.heap.size gR1 gR2 gR3 gR4 gg1 gg2 gg3 gg4 (marks 1 (gLp (scO a0 l0 d0 s0 n0 c0 hub0 tip0 u1) a0).length) (marks (1 + (gLp (scO a0 l0 d0 s0 n0 c0 hub0 tip0 u1) a0).length) (gLp (scO a0 l0 d0 s0 n0 c0 hub0 tip0 u1) l0).length) (marks (1 + (gLp (scO a0 l0 d0 s0 n0 c0 hub0 tip0 u1) a0).length + (gLp (scO a0 l0 d0 s0 n0 c0 hub0 tip0 u1) l0).length) (gLp (scO a0 l0 d0 s0 n0 c0 hub0 tip0 u1) d0).length) (marks (1 + (gLp (scO a0 l0 d0 s0 n0 c0 hub0 tip0 u1) a0).length + (gLp (scO a0 l0 d0 s0 n0 c0 hub0 tip0 u1) l0).length + (gLp (scO a0 l0 d0 s0 n0 c0 hub0 tip0 u1) d0).length) ((gN (scO a0 l0 d0 s0 n0 c0 hub0 tip0 u1) n0) * 3))) := Lib.hid (om)
      clear K0x0 K0x1 K0x2 K0x3 K0x4 K0x5 K0x6 WBx0 WBx1 WBx2 WBx3 WBx4 WBx5 WBx6 V0x0 V0x1 V0x2 V0x3 V0x4 V0x5 V0x6 GBx0 GBx1 GBx2 GBx3 GBx4 GBx5 GBx6
      clear K0_12 Xc_9 WB_8 V0_6 GB_4
      clear t om
      have hm : (0 : Int) ≤ ((1 : Nat) : Int) + ((gLp (scO a0 l0 d0 s0 n0 c0 hub0 tip0 u1) a0).length : Int) + ((gLp (scO a0 l0 d0 s0 n0 c0 hub0 tip0 u1) l0).length : Int) + ((gLp (scO a0 l0 d0 s0 n0 c0 hub0 tip0 u1) d0).length : Int) + 3 * ((gN (scO a0 l0 d0 s0 n0 c0 hub0 tip0 u1) n0) : Int) := by omega
      obtain ⟨K0x0, K0x1, K0x2, K0x3, K0x4, K0x5, K0x6⟩ := K0_13.out.sevenT
      obtain ⟨WBx0, WBx1, WBx2, WBx3, WBx4, WBx5, WBx6⟩ := WB_9.out.sevenT
      obtain ⟨V0x0, V0x1, V0x2, V0x3, V0x4, V0x5, V0x6⟩ := V0_7.out.sevenT
      obtain ⟨GBx0, GBx1, GBx2, GBx3, GBx4, GBx5, GBx6⟩ := GB_5.out.sevenT
      go_wp2_with fail
      refine (l_heldRotor _ _ _ _ _ _ _ _ _ _ _ _ _ _ 1 _ _ _ _ _ _ _ (XM.out) HF.out.2 (by omega) _ rfl).mono ?_
      rintro e wd14 ⟨rfl, b⟩
      have B14 : Hid (Below w.heap.size w wd14) := Lib.hid (below_of B13.out B13.out.size b)
      have Z14 : Hid (wd13.heap.size ≤ wd14.heap.size) := Lib.hid b.size
      have K0_14 : Hid (BlkL wd14 (w.heap.size) [.slice A0 a0.length ca0, .slice L0 l0.length cl0, .slice D0 d0.length cd0, .slice S0 n0 cs0, .int .i64 c0, .float .f32 hub0, .float .f32 tip0]) := Lib.hid (K0_13.out.below b)
      have Xc_11 : Hid (OwnT wd14 wd2.heap.size cR1 cR2 cR3 cR4 cg1 cg2 cg3 cg4 (gLp (scO a0 l0 d0 s0 n0 c0 hub0 tip0 u1) a0) (gLp (scO a0 l0 d0 s0 n0 c0 hub0 tip0 u1) l0) (gLp (scO a0 l0 d0 s0 n0 c0 hub0 tip0 u1) d0) (gLp (scO a0 l0 d0 s0 n0 c0 hub0 tip0 u1) (mp3 (scG u1) s0))) := Lib.hid (Xc_10.out.below b)
      have WB_10 : Hid (BlkL wd14 (wd3.heap.size) [.slice cR1 (gLp (scO a0 l0 d0 s0 n0 c0 hub0 tip0 u1) a0).length cc1, .slice cR2 (gLp (scO a0 l0 d0 s0 n0 c0 hub0 tip0 u1) l0).length cc2, .slice cR3 (gLp (scO a0 l0 d0 s0 n0 c0 hub0 tip0 u1) d0).length cc3, .slice cR4 (gN (scO a0 l0 d0 s0 n0 c0 hub0 tip0 u1) n0) cc4, .int .i64 (gC (scO a0 l0 d0 s0 n0 c0 hub0 tip0 u1) c0), .float .f32 (gN (scO a0 l0 d0 s0 n0 c0 hub0 tip0 u1) (fop .mul .f32 (canon .f32 u1) (canon .f32 hub0))), .float .f32 (gN (scO a0 l0 d0 s0 n0 c0 hub0 tip0 u1) (fop .mul .f32 (canon .f32 u1) (canon .f32 tip0)))]) := Lib.hid (WB_9.out.below b)
      have V0_8 : Hid (BlkL wd14 (wd5.heap.size) [.slice (some ⟨x01, 0, none⟩) a0.length a0.length, .slice (some ⟨x02, 0, none⟩) l0.length l0.length, .slice (some ⟨x03, 0, none⟩) d0.length d0.length, .slice (some ⟨x04, 0, none⟩) n0 n0, .int .i64 c0, .float .f32 hub0, .float .f32 tip0]) := Lib.hid (V0_7.out.below b)
      have GB_6 : Hid (BlkL wd14 (wd7.heap.size) [.slice gR1 (gLp (scO a0 l0 d0 s0 n0 c0 hub0 tip0 u1) a0).length gc1, .slice gR2 (gLp (scO a0 l0 d0 s0 n0 c0 hub0 tip0 u1) l0).length gc2, .slice gR3 (gLp (scO a0 l0 d0 s0 n0 c0 hub0 tip0 u1) d0).length gc3, .slice gR4 (gN (scO a0 l0 d0 s0 n0 c0 hub0 tip0 u1) n0) gc4, .int .i64 (gC (scO a0 l0 d0 s0 n0 c0 hub0 tip0 u1) c0), .float .f32 (gN (scO a0 l0 d0 s0 n0 c0 hub0 tip0 u1) (fop .mul .f32 (canon .f32 u1) (canon .f32 hub0))), .float .f32 (gN (scO a0 l0 d0 s0 n0 c0 hub0 tip0 u1) (fop .mul .f32 (canon .f32 u1) (canon .f32 tip0)))]) := Lib.hid (GB_5.out.below b)
      have XM_1 : Hid (OwnT wd14 wd6.heap.size gR1 gR2 gR3 gR4 gg1 gg2 gg3 gg4 (marks 1 (gLp (scO a0 l0 d0 s0 n0 c0 hub0 tip0 u1) a0).length) (marks (1 + (gLp (scO a0 l0 d0 s0 n0 c0 hub0 tip0 u1) a0).length) (gLp (scO a0 l0 d0 s0 n0 c0 hub0 tip0 u1) l0).length) (marks (1 + (gLp (scO a0 l0 d0 s0 n0 c0 hub0 tip0 u1) a0).length + (gLp (scO a0 l0 d0 s0 n0 c0 hub0 tip0 u1) l0).length) (gLp (scO a0 l0 d0 s0 n0 c0 hub0 tip0 u1) d0).length) (marks (1 + (gLp (scO a0 l0 d0 s0 n0 c0 hub0 tip0 u1) a0).length + (gLp (scO a0 l0 d0 s0 n0 c0 hub0 tip0 u1) l0).length + (gLp (scO a0 l0 d0 s0 n0 c0 hub0 tip0 u1) d0).length) ((gN (scO a0 l0 d0 s0 n0 c0 hub0 tip0 u1) n0) * 3))) := Lib.hid (XM.out.below b)
      clear K0x0 K0x1 K0x2 K0x3 K0x4 K0x5 K0x6 WBx0 WBx1 WBx2 WBx3 WBx4 WBx5 WBx6 V0x0 V0x1 V0x2 V0x3 V0x4 V0x5 V0x6 GBx0 GBx1 GBx2 GBx3 GBx4 GBx5 GBx6
      clear K0_13 Xc_10 WB_9 V0_7 GB_5 XM
      clear b
      obtain ⟨K0x0, K0x1, K0x2, K0x3, K0x4, K0x5, K0x6⟩ := K0_14.out.sevenT
      obtain ⟨WBx0, WBx1, WBx2, WBx3, WBx4, WBx5, WBx6⟩ := WB_10.out.sevenT
      obtain ⟨V0x0, V0x1, V0x2, V0x3, V0x4, V0x5, V0x6⟩ := V0_8.out.sevenT
      obtain ⟨GBx0, GBx1, GBx2, GBx3, GBx4, GBx5, GBx6⟩ := GB_6.out.sevenT
      go_wp2_with fail
      refine (l_toRotor A0 L0 D0 S0 ca0 cl0 cd0 n0 cs0 c0 hub0 tip0 a0 l0 d0 s0 _ (HP0.out.below B14.out) HN0.out).mono ?_
      rintro e wd15 ⟨z01, z02, z03, z04, rfl, ho, b⟩
      have B15 : Hid (Below w.heap.size w wd15) := Lib.hid (below_of B14.out B14.out.size b)
      have Z15 : Hid (wd14.heap.size ≤ wd15.heap.size) := Lib.hid b.size
      have K0_15 : Hid (BlkL wd15 (w.heap.size) [.slice A0 a0.length ca0, .slice L0 l0.length cl0, .slice D0 d0.length cd0, .slice S0 n0 cs0, .int .i64 c0, .float .f32 hub0, .float .f32 tip0]) := Lib.hid (K0_14.out.below b)
      have Xc_12 : Hid (OwnT wd15 wd2.heap.size cR1 cR2 cR3 cR4 cg1 cg2 cg3 cg4 (gLp (scO a0 l0 d0 s0 n0 c0 hub0 tip0 u1) a0) (gLp (scO a0 l0 d0 s0 n0 c0 hub0 tip0 u1) l0) (gLp (scO a0 l0 d0 s0 n0 c0 hub0 tip0 u1) d0) (gLp (scO a0 l0 d0 s0 n0 c0 hub0 tip0 u1) (mp3 (scG u1) s0))) := Lib.hid (Xc_11.out.below b)
      have WB_11 : Hid (BlkL wd15 (wd3.heap.size) [.slice cR1 (gLp (scO a0 l0 d0 s0 n0 c0 hub0 tip0 u1) a0).length cc1, .slice cR2 (gLp (scO a0 l0 d0 s0 n0 c0 hub0 tip0 u1) l0).length cc2, .slice cR3 (gLp (scO a0 l0 d0 s0 n0 c0 hub0 tip0 u1) d0).length cc3, .slice cR4 (gN (scO a0 l0 d0 s0 n0 c0 hub0 tip0 u1) n0) cc4, .int .i64 (gC (scO a0 l0 d0 s0 n0 c0 hub0 tip0 u1) c0), .float .f32 (gN (scO a0 l0 d0 s0 n0 c0 hub0 tip0 u1) (fop .mul .f32 (canon .f32 u1) (canon .f32 hub0))), .float .f32 (gN (scO a0 l0 d0 s0 n0 c0 hub0 tip0 u1) (fop .mul .f32 (canon .f32 u1) (canon .f32 tip0)))]) := Lib.hid (WB_10.out.below b)
      have V0_9 : Hid (BlkL wd15 (wd5.heap.size) [.slice (some ⟨x01, 0, none⟩) a0.length a0.length, .slice (some ⟨x02, 0, none⟩) l0.length l0.length, .slice (some ⟨x03, 0, none⟩) d0.length d0.length, .slice (some ⟨x04, 0, none⟩) n0 n0, .int .i64 c0, .float .f32 hub0, .float .f32 tip0]) := Lib.hid (V0_8.out.below b)
      have GB_7 : Hid (BlkL wd15 (wd7.heap.size) [.slice gR1 (gLp (scO a0 l0 d0 s0 n0 c0 hub0 tip0 u1) a0).length gc1, .slice gR2 (gLp (scO a0 l0 d0 s0 n0 c0 hub0 tip0 u1) l0).length gc2, .slice gR3 (gLp (scO a0 l0 d0 s0 n0 c0 hub0 tip0 u1) d0).length gc3, .slice gR4 (gN (scO a0 l0 d0 s0 n0 c0 hub0 tip0 u1) n0) gc4, .int .i64 (gC (scO a0 l0 d0 s0 n0 c0 hub0 tip0 u1) c0), .float .f32 (gN (scO a0 l0 d0 s0 n0 c0 hub0 tip0 u1) (fop .mul .f32 (canon .f32 u1) (canon .f32 hub0))), .float .f32 (gN (scO a0 l0 d0 s0 n0 c0 hub0 tip0 u1) (fop .mul .f32 (canon .f32 u1) (canon .f32 tip0)))]) := Lib.hid (GB_6.out.below b)
      have XM_2 : Hid (OwnT wd15 wd6.heap.size gR1 gR2 gR3 gR4 gg1 gg2 gg3 gg4 (marks 1 (gLp (scO a0 l0 d0 s0 n0 c0 hub0 tip0 u1) a0).length) (marks (1 + (gLp (scO a0 l0 d0 s0 n0 c0 hub0 tip0 u1) a0).length) (gLp (scO a0 l0 d0 s0 n0 c0 hub0 tip0 u1) l0).length) (marks (1 + (gLp (scO a0 l0 d0 s0 n0 c0 hub0 tip0 u1) a0).length + (gLp (scO a0 l0 d0 s0 n0 c0 hub0 tip0 u1) l0).length) (gLp (scO a0 l0 d0 s0 n0 c0 hub0 tip0 u1) d0).length) (marks (1 + (gLp (scO a0 l0 d0 s0 n0 c0 hub0 tip0 u1) a0).length + (gLp (scO a0 l0 d0 s0 n0 c0 hub0 tip0 u1) l0).length + (gLp (scO a0 l0 d0 s0 n0 c0 hub0 tip0 u1) d0).length) ((gN (scO a0 l0 d0 s0 n0 c0 hub0 tip0 u1) n0) * 3))) := Lib.hid (XM_1.out.below b)
      clear K0x0 K0x1 K0x2 K0x3 K0x4 K0x5 K0x6 WBx0 WBx1 WBx2 WBx3 WBx4 WBx5 WBx6 V0x0 V0x1 V0x2 V0x3 V0x4 V0x5 V0x6 GBx0 GBx1 GBx2 GBx3 GBx4 GBx5 GBx6
      clear K0_14 Xc_11 WB_10 V0_8 GB_6 XM_1
      have Xz0 : Hid (OwnT wd15 wd14.heap.size (some ⟨z01, 0, none⟩) (some ⟨z02, 0, none⟩) (some ⟨z03, 0, none⟩) (some ⟨z04, 0, none⟩) z01 z02 z03 z04 a0 l0 d0 s0) := Lib.hid (OwnR.t ho)
      have Xz0bd := Xz0
      clear ho b
      obtain ⟨K0x0, K0x1, K0x2, K0x3, K0x4, K0x5, K0x6⟩ := K0_15.out.sevenT
      obtain ⟨WBx0, WBx1, WBx2, WBx3, WBx4, WBx5, WBx6⟩ := WB_11.out.sevenT
      obtain ⟨V0x0, V0x1, V0x2, V0x3, V0x4, V0x5, V0x6⟩ := V0_9.out.sevenT
      obtain ⟨GBx0, GBx1, GBx2, GBx3, GBx4, GBx5, GBx6⟩ := GB_7.out.sevenT
      go_wp2_with fail
      refine (i_ScaleRotor _ _ _ _ _ _ _ _ _ _ _ _ a0 l0 d0 s0 u1 _ Xz0.out.rt HN0.out).mono ?_
      rintro e wd16 ⟨hR1, hR2, hR3, hR4, hc1, hc2, hc3, hc4, hg1, hg2, hg3, hg4, rfl, ho, b⟩
      have B16 : Hid (Below w.heap.size w wd16) := Lib.hid (below_of B15.out B15.out.size b)
      have Z16 : Hid (wd15.heap.size ≤ wd16.heap.size) := Lib.hid b.size
      have K0_16 : Hid (BlkL wd16 (w.heap.size) [.slice A0 a0.length ca0, .slice L0 l0.length cl0, .slice D0 d0.length cd0, .slice S0 n0 cs0, .int .i64 c0, .float .f32 hub0, .float .f32 tip0]) := Lib.hid (K0_15.out.below b)
      have Xc_13 : Hid (OwnT wd16 wd2.heap.size cR1 cR2 cR3 cR4 cg1 cg2 cg3 cg4 (gLp (scO a0 l0 d0 s0 n0 c0 hub0 tip0 u1) a0) (gLp (scO a0 l0 d0 s0 n0 c0 hub0 tip0 u1) l0) (gLp (scO a0 l0 d0 s0 n0 c0 hub0 tip0 u1) d0) (gLp (scO a0 l0 d0 s0 n0 c0 hub0 tip0 u1) (mp3 (scG u1) s0))) := Lib.hid (Xc_12.out.below b)
      have WB_12 : Hid (BlkL wd16 (wd3.heap.size) [.slice cR1 (gLp (scO a0 l0 d0 s0 n0 c0 hub0 tip0 u1) a0).length cc1, .slice cR2 (gLp (scO a0 l0 d0 s0 n0 c0 hub0 tip0 u1) l0).length cc2, .slice cR3 (gLp (scO a0 l0 d0 s0 n0 c0 hub0 tip0 u1) d0).length cc3, .slice cR4 (gN (scO a0 l0 d0 s0 n0 c0 hub0 tip0 u1) n0) cc4, .int .i64 (gC (scO a0 l0 d0 s0 n0 c0 hub0 tip0 u1) c0), .float .f32 (gN (scO a0 l0 d0 s0 n0 c0 hub0 tip0 u1) (fop .mul .f32 (canon .f32 u1) (canon .f32 hub0))), .float .f32 (gN (scO a0 l0 d0 s0 n0 c0 hub0 tip0 u1) (fop .mul .f32 (canon .f32 u1) (canon .f32 tip0)))]) := Lib.hid (WB_11.out.below b)
      have V0_10 : Hid (BlkL wd16 (wd5.heap.size) [.slice (some ⟨x01, 0, none⟩) a0.length a0.length, .slice (some ⟨x02, 0, none⟩) l0.length l0.length, .slice (some ⟨x03, 0, none⟩) d0.length d0.length, .slice (some ⟨x04, 0, none⟩) n0 n0, .int .i64 c0, .float .f32 hub0, .float .f32 tip0]) := Lib.hid (V0_9.out.below b)
      have GB_8 : Hid (BlkL wd16 (wd7.heap.size) [.slice gR1 (gLp (scO a0 l0 d0 s0 n0 c0 hub0 tip0 u1) a0).length gc1, .slice gR2 (gLp (scO a0 l0 d0 s0 n0 c0 hub0 tip0 u1) l0).length gc2, .slice gR3 (gLp (scO a0 l0 d0 s0 n0 c0 hub0 tip0 u1) d0).length gc3, .slice gR4 (gN (scO a0 l0 d0 s0 n0 c0 hub0 tip0 u1) n0) gc4, .int .i64 (gC (scO a0 l0 d0 s0 n0 c0 hub0 tip0 u1) c0), .float .f32 (gN (scO a0 l0 d0 s0 n0 c0 hub0 tip0 u1) (fop .mul .f32 (canon .f32 u1) (canon .f32 hub0))), .float .f32 (gN (scO a0 l0 d0 s0 n0 c0 hub0 tip0 u1) (fop .mul .f32 (canon .f32 u1) (canon .f32 tip0)))]) := Lib.hid (GB_7.out.below b)
      have XM_3 : Hid (OwnT wd16 wd6.heap.size gR1 gR2 gR3 gR4 gg1 gg2 gg3 gg4 (marks 1 (gLp (scO a0 l0 d0 s0 n0 c0 hub0 tip0 u1) a0).length) (marks (1 + (gLp (scO a0 l0 d0 s0 n0 c0 hub0 tip0 u1) a0).length) (gLp (scO a0 l0 d0 s0 n0 c0 hub0 tip0 u1) l0).length) (marks (1 + (gLp (scO a0 l0 d0 s0 n0 c0 hub0 tip0 u1) a0).length + (gLp (scO a0 l0 d0 s0 n0 c0 hub0 tip0 u1) l0).length) (gLp (scO a0 l0 d0 s0 n0 c0 hub0 tip0 u1) d0).length) (marks (1 + (gLp (scO a0 l0 d0 s0 n0 c0 hub0 tip0 u1) a0).length + (gLp (scO a0 l0 d0 s0 n0 c0 hub0 tip0 u1) l0).length + (gLp (scO a0 l0 d0 s0 n0 c0 hub0 tip0 u1) d0).length) ((gN (scO a0 l0 d0 s0 n0 c0 hub0 tip0 u1) n0) * 3))) := Lib.hid (XM_2.out.below b)
      have Xz0_1 : Hid (OwnT wd16 wd14.heap.size (some ⟨z01, 0, none⟩) (some ⟨z02, 0, none⟩) (some ⟨z03, 0, none⟩) (some ⟨z04, 0, none⟩) z01 z02 z03 z04 a0 l0 d0 s0) := Lib.hid (Xz0.out.below b)
      clear K0x0 K0x1 K0x2 K0x3 K0x4 K0x5 K0x6 WBx0 WBx1 WBx2 WBx3 WBx4 WBx5 WBx6 V0x0 V0x1 V0x2 V0x3 V0x4 V0x5 V0x6 GBx0 GBx1 GBx2 GBx3 GBx4 GBx5 GBx6
      clear K0_15 Xc_12 WB_11 V0_9 GB_7 XM_2 Xz0
      have Xh : Hid (OwnT wd16 wd15.heap.size hR1 hR2 hR3 hR4 hg1 hg2 hg3 hg4 (gLp (scO a0 l0 d0 s0 n0 c0 hub0 tip0 u1) a0) (gLp (scO a0 l0 d0 s0 n0 c0 hub0 tip0 u1) l0) (gLp (scO a0 l0 d0 s0 n0 c0 hub0 tip0 u1) d0) (gLp (scO a0 l0 d0 s0 n0 c0 hub0 tip0 u1) (mp3 (scG u1) s0))) := Lib.hid (ho)
      have Xhbd := Xh
      clear ho
      clear b
      obtain ⟨wd17, hw17⟩ : ∃ x, x = wd16.alloc (.cells #[.slice hR1 (gLp (scO a0 l0 d0 s0 n0 c0 hub0 tip0 u1) a0).length hc1, .slice hR2 (gLp (scO a0 l0 d0 s0 n0 c0 hub0 tip0 u1) l0).length hc2, .slice hR3 (gLp (scO a0 l0 d0 s0 n0 c0 hub0 tip0 u1) d0).length hc3, .slice hR4 (gN (scO a0 l0 d0 s0 n0 c0 hub0 tip0 u1) n0) hc4, .int .i64 (gC (scO a0 l0 d0 s0 n0 c0 hub0 tip0 u1) c0), .float .f32 (gN (scO a0 l0 d0 s0 n0 c0 hub0 tip0 u1) (fop .mul .f32 (canon .f32 u1) (canon .f32 hub0))), .float .f32 (gN (scO a0 l0 d0 s0 n0 c0 hub0 tip0 u1) (fop .mul .f32 (canon .f32 u1) (canon .f32 tip0)))] 30) := ⟨_, rfl⟩
      have b : Below wd16.heap.size wd16 wd17 := by rw [hw17]; exact (Below.refl _ _).alloc (Nat.le_refl _) _
      have Y17 : Hid (wd16.heap.size + 1 ≤ wd17.heap.size) := Lib.hid (by rw [hw17]; simp)
      have B17 : Hid (Below w.heap.size w wd17) := Lib.hid (below_of B16.out B16.out.size b)
      have Z17 : Hid (wd16.heap.size ≤ wd17.heap.size) := Lib.hid b.size
      have K0_17 : Hid (BlkL wd17 (w.heap.size) [.slice A0 a0.length ca0, .slice L0 l0.length cl0, .slice D0 d0.length cd0, .slice S0 n0 cs0, .int .i64 c0, .float .f32 hub0, .float .f32 tip0]) := Lib.hid (K0_16.out.below b)
      have Xc_14 : Hid (OwnT wd17 wd2.heap.size cR1 cR2 cR3 cR4 cg1 cg2 cg3 cg4 (gLp (scO a0 l0 d0 s0 n0 c0 hub0 tip0 u1) a0) (gLp (scO a0 l0 d0 s0 n0 c0 hub0 tip0 u1) l0) (gLp (scO a0 l0 d0 s0 n0 c0 hub0 tip0 u1) d0) (gLp (scO a0 l0 d0 s0 n0 c0 hub0 tip0 u1) (mp3 (scG u1) s0))) := Lib.hid (Xc_13.out.below b)
      have WB_13 : Hid (BlkL wd17 (wd3.heap.size) [.slice cR1 (gLp (scO a0 l0 d0 s0 n0 c0 hub0 tip0 u1) a0).length cc1, .slice cR2 (gLp (scO a0 l0 d0 s0 n0 c0 hub0 tip0 u1) l0).length cc2, .slice cR3 (gLp (scO a0 l0 d0 s0 n0 c0 hub0 tip0 u1) d0).length cc3, .slice cR4 (gN (scO a0 l0 d0 s0 n0 c0 hub0 tip0 u1) n0) cc4, .int .i64 (gC (scO a0 l0 d0 s0 n0 c0 hub0 tip0 u1) c0), .float .f32 (gN (scO a0 l0 d0 s0 n0 c0 hub0 tip0 u1) (fop .mul .f32 (canon .f32 u1) (canon .f32 hub0))), .float .f32 (gN (scO a0 l0 d0 s0 n0 c0 hub0 tip0 u1) (fop .mul .f32 (canon .f32 u1) (canon .f32 tip0)))]) := Lib.hid (WB_12.out.below b)
      have V0_11 : Hid (BlkL wd17 (wd5.heap.size) [.slice (some ⟨x01, 0, none⟩) a0.length a0.length, .slice (some ⟨x02, 0, none⟩) l0.length l0.length, .slice (some ⟨x03, 0, none⟩) d0.length d0.length, .slice (some ⟨x04, 0, none⟩) n0 n0, .int .i64 c0, .float .f32 hub0, .float .f32 tip0]) := Lib.hid (V0_10.out.below b)
      have GB_9 : Hid (BlkL wd17 (wd7.heap.size) [.slice gR1 (gLp (scO a0 l0 d0 s0 n0 c0 hub0 tip0 u1) a0).length gc1, .slice gR2 (gLp (scO a0 l0 d0 s0 n0 c0 hub0 tip0 u1) l0).length gc2, .slice gR3 (gLp (scO a0 l0 d0 s0 n0 c0 hub0 tip0 u1) d0).length gc3, .slice gR4 (gN (scO a0 l0 d0 s0 n0 c0 hub0 tip0 u1) n0) gc4, .int .i64 (gC (scO a0 l0 d0 s0 n0 c0 hub0 tip0 u1) c0), .float .f32 (gN (scO a0 l0 d0 s0 n0 c0 hub0 tip0 u1) (fop .mul .f32 (canon .f32 u1) (canon .f32 hub0))), .float .f32 (gN (scO a0 l0 d0 s0 n0 c0 hub0 tip0 u1) (fop .mul .f32 (canon .f32 u1) (canon .f32 tip0)))]) := Lib.hid (GB_8.out.below b)
      have XM_4 : Hid (OwnT wd17 wd6.heap.size gR1 gR2 gR3 gR4 gg1 gg2 gg3 gg4 (marks 1 (gLp (scO a0 l0 d0 s0 n0 c0 hub0 tip0 u1) a0).length) (marks (1 + (gLp (scO a0 l0 d0 s0 n0 c0 hub0 tip0 u1) a0).length) (gLp (scO a0 l0 d0 s0 n0 c0 hub0 tip0 u1) l0).length) (marks (1 + (gLp (scO a0 l0 d0 s0 n0 c0 hub0 tip0 u1) a0).length + (gLp (scO a0 l0 d0 s0 n0 c0 hub0 tip0 u1) l0).length) (gLp (scO a0 l0 d0 s0 n0 c0 hub0 tip0 u1) d0).length) (marks (1 + (gLp (scO a0 l0 d0 s0 n0 c0 hub0 tip0 u1) a0).length + (gLp (scO a0 l0 d0 s0 n0 c0 hub0 tip0 u1) l0).length + (gLp (scO a0 l0 d0 s0 n0 c0 hub0 tip0 u1) d0).length) ((gN (scO a0 l0 d0 s0 n0 c0 hub0 tip0 u1) n0) * 3))) := Lib.hid (XM_3.out.below b)
      have Xh_1 : Hid (OwnT wd17 wd15.heap.size hR1 hR2 hR3 hR4 hg1 hg2 hg3 hg4 (gLp (scO a0 l0 d0 s0 n0 c0 hub0 tip0 u1) a0) (gLp (scO a0 l0 d0 s0 n0 c0 hub0 tip0 u1) l0) (gLp (scO a0 l0 d0 s0 n0 c0 hub0 tip0 u1) d0) (gLp (scO a0 l0 d0 s0 n0 c0 hub0 tip0 u1) (mp3 (scG u1) s0))) := Lib.hid (Xh.out.below b)
      have HB : Hid (BlkL wd17 (wd16.heap.size) [.slice hR1 (gLp (scO a0 l0 d0 s0 n0 c0 hub0 tip0 u1) a0).length hc1, .slice hR2 (gLp (scO a0 l0 d0 s0 n0 c0 hub0 tip0 u1) l0).length hc2, .slice hR3 (gLp (scO a0 l0 d0 s0 n0 c0 hub0 tip0 u1) d0).length hc3, .slice hR4 (gN (scO a0 l0 d0 s0 n0 c0 hub0 tip0 u1) n0) hc4, .int .i64 (gC (scO a0 l0 d0 s0 n0 c0 hub0 tip0 u1) c0), .float .f32 (gN (scO a0 l0 d0 s0 n0 c0 hub0 tip0 u1) (fop .mul .f32 (canon .f32 u1) (canon .f32 hub0))), .float .f32 (gN (scO a0 l0 d0 s0 n0 c0 hub0 tip0 u1) (fop .mul .f32 (canon .f32 u1) (canon .f32 tip0)))]) := Lib.hid (by rw [hw17]; exact blkL_at wd16 #[.slice hR1 (gLp (scO a0 l0 d0 s0 n0 c0 hub0 tip0 u1) a0).length hc1, .slice hR2 (gLp (scO a0 l0 d0 s0 n0 c0 hub0 tip0 u1) l0).length hc2, .slice hR3 (gLp (scO a0 l0 d0 s0 n0 c0 hub0 tip0 u1) d0).length hc3, .slice hR4 (gN (scO a0 l0 d0 s0 n0 c0 hub0 tip0 u1) n0) hc4, .int .i64 (gC (scO a0 l0 d0 s0 n0 c0 hub0 tip0 u1) c0), .float .f32 (gN (scO a0 l0 d0 s0 n0 c0 hub0 tip0 u1) (fop .mul .f32 (canon .f32 u1) (canon .f32 hub0))), .float .f32 (gN (scO a0 l0 d0 s0 n0 c0 hub0 tip0 u1) (fop .mul .f32 (canon .f32 u1) (canon .f32 tip0)))] 30 rfl)
      clear b
      have K0y0 := fun o => ((K0_16.out.alloc o).2 0 _ rfl).1
      have K0y1 := fun o => ((K0_16.out.alloc o).2 1 _ rfl).1
      have K0y2 := fun o => ((K0_16.out.alloc o).2 2 _ rfl).1
      have K0y3 := fun o => ((K0_16.out.alloc o).2 3 _ rfl).1
      have K0y4 := fun o => ((K0_16.out.alloc o).2 4 _ rfl).1
      have K0y5 := fun o => ((K0_16.out.alloc o).2 5 _ rfl).1
      have K0y6 := fun o => ((K0_16.out.alloc o).2 6 _ rfl).1
      have WBy0 := fun o => ((WB_12.out.alloc o).2 0 _ rfl).1
      have WBy1 := fun o => ((WB_12.out.alloc o).2 1 _ rfl).1
      have WBy2 := fun o => ((WB_12.out.alloc o).2 2 _ rfl).1
      have WBy3 := fun o => ((WB_12.out.alloc o).2 3 _ rfl).1
      have WBy4 := fun o => ((WB_12.out.alloc o).2 4 _ rfl).1
      have WBy5 := fun o => ((WB_12.out.alloc o).2 5 _ rfl).1
      have WBy6 := fun o => ((WB_12.out.alloc o).2 6 _ rfl).1
      have V0y0 := fun o => ((V0_10.out.alloc o).2 0 _ rfl).1
      have V0y1 := fun o => ((V0_10.out.alloc o).2 1 _ rfl).1
      have V0y2 := fun o => ((V0_10.out.alloc o).2 2 _ rfl).1
      have V0y3 := fun o => ((V0_10.out.alloc o).2 3 _ rfl).1
      have V0y4 := fun o => ((V0_10.out.alloc o).2 4 _ rfl).1
      have V0y5 := fun o => ((V0_10.out.alloc o).2 5 _ rfl).1
      have V0y6 := fun o => ((V0_10.out.alloc o).2 6 _ rfl).1
      have GBy0 := fun o => ((GB_8.out.alloc o).2 0 _ rfl).1
      have GBy1 := fun o => ((GB_8.out.alloc o).2 1 _ rfl).1
      have GBy2 := fun o => ((GB_8.out.alloc o).2 2 _ rfl).1
      have GBy3 := fun o => ((GB_8.out.alloc o).2 3 _ rfl).1
      have GBy4 := fun o => ((GB_8.out.alloc o).2 4 _ rfl).1
      have GBy5 := fun o => ((GB_8.out.alloc o).2 5 _ rfl).1
      have GBy6 := fun o => ((GB_8.out.alloc o).2 6 _ rfl).1
      go_wp2_with fail
      rw [← hw17]
      clear hw17
      clear K0y0 K0y1 K0y2 K0y3 K0y4 K0y5 K0y6 WBy0 WBy1 WBy2 WBy3 WBy4 WBy5 WBy6 V0y0 V0y1 V0y2 V0y3 V0y4 V0y5 V0y6 GBy0 GBy1 GBy2 GBy3 GBy4 GBy5 GBy6
      clear K0_16 Xc_13 WB_12 V0_10 GB_8 XM_3 Xh
      obtain ⟨K0x0, K0x1, K0x2, K0x3, K0x4, K0x5, K0x6⟩ := K0_17.out.sevenT
      obtain ⟨WBx0, WBx1, WBx2, WBx3, WBx4, WBx5, WBx6⟩ := WB_13.out.sevenT
      obtain ⟨V0x0, V0x1, V0x2, V0x3, V0x4, V0x5, V0x6⟩ := V0_11.out.sevenT
      obtain ⟨GBx0, GBx1, GBx2, GBx3, GBx4, GBx5, GBx6⟩ := GB_9.out.sevenT
      obtain ⟨HBx0, HBx1, HBx2, HBx3, HBx4, HBx5, HBx6⟩ := HB.out.sevenT
      go_wp2_with fail
      refine (l_eqRotor _ _ _ _ _ _ _ _ _ _ _ _ _ _ _ _ _ _ _ _ (gLp (scO a0 l0 d0 s0 n0 c0 hub0 tip0 u1) a0) (gLp (scO a0 l0 d0 s0 n0 c0 hub0 tip0 u1) l0) (gLp (scO a0 l0 d0 s0 n0 c0 hub0 tip0 u1) d0) (gLp (scO a0 l0 d0 s0 n0 c0 hub0 tip0 u1) (mp3 (scG u1) s0)) _ Xh_1.out.rt Xc_14.out.rt HF.out).mono ?_
      rintro e wd18 ⟨rfl, b⟩
      have B18 : Hid (Below w.heap.size w wd18) := Lib.hid (below_of B17.out B17.out.size b)
      have Z18 : Hid (wd17.heap.size ≤ wd18.heap.size) := Lib.hid b.size
      have K0_18 : Hid (BlkL wd18 (w.heap.size) [.slice A0 a0.length ca0, .slice L0 l0.length cl0, .slice D0 d0.length cd0, .slice S0 n0 cs0, .int .i64 c0, .float .f32 hub0, .float .f32 tip0]) := Lib.hid (K0_17.out.below b)
      have Xc_15 : Hid (OwnT wd18 wd2.heap.size cR1 cR2 cR3 cR4 cg1 cg2 cg3 cg4 (gLp (scO a0 l0 d0 s0 n0 c0 hub0 tip0 u1) a0) (gLp (scO a0 l0 d0 s0 n0 c0 hub0 tip0 u1) l0) (gLp (scO a0 l0 d0 s0 n0 c0 hub0 tip0 u1) d0) (gLp (scO a0 l0 d0 s0 n0 c0 hub0 tip0 u1) (mp3 (scG u1) s0))) := Lib.hid (Xc_14.out.below b)
      have WB_14 : Hid (BlkL wd18 (wd3.heap.size) [.slice cR1 (gLp (scO a0 l0 d0 s0 n0 c0 hub0 tip0 u1) a0).length cc1, .slice cR2 (gLp (scO a0 l0 d0 s0 n0 c0 hub0 tip0 u1) l0).length cc2, .slice cR3 (gLp (scO a0 l0 d0 s0 n0 c0 hub0 tip0 u1) d0).length cc3, .slice cR4 (gN (scO a0 l0 d0 s0 n0 c0 hub0 tip0 u1) n0) cc4, .int .i64 (gC (scO a0 l0 d0 s0 n0 c0 hub0 tip0 u1) c0), .float .f32 (gN (scO a0 l0 d0 s0 n0 c0 hub0 tip0 u1) (fop .mul .f32 (canon .f32 u1) (canon .f32 hub0))), .float .f32 (gN (scO a0 l0 d0 s0 n0 c0 hub0 tip0 u1) (fop .mul .f32 (canon .f32 u1) (canon .f32 tip0)))]) := Lib.hid (WB_13.out.below b)
      have V0_12 : Hid (BlkL wd18 (wd5.heap.size) [.slice (some ⟨x01, 0, none⟩) a0.length a0.length, .slice (some ⟨x02, 0, none⟩) l0.length l0.length, .slice (some ⟨x03, 0, none⟩) d0.length d0.length, .slice (some ⟨x04, 0, none⟩) n0 n0, .int .i64 c0, .float .f32 hub0, .float .f32 tip0]) := Lib.hid (V0_11.out.below b)
      have GB_10 : Hid (BlkL wd18 (wd7.heap.size) [.slice gR1 (gLp (scO a0 l0 d0 s0 n0 c0 hub0 tip0 u1) a0).length gc1, .slice gR2 (gLp (scO a0 l0 d0 s0 n0 c0 hub0 tip0 u1) l0).length gc2, .slice gR3 (gLp (scO a0 l0 d0 s0 n0 c0 hub0 tip0 u1) d0).length gc3, .slice gR4 (gN (scO a0 l0 d0 s0 n0 c0 hub0 tip0 u1) n0) gc4, .int .i64 (gC (scO a0 l0 d0 s0 n0 c0 hub0 tip0 u1) c0), .float .f32 (gN (scO a0 l0 d0 s0 n0 c0 hub0 tip0 u1) (fop .mul .f32 (canon .f32 u1) (canon .f32 hub0))), .float .f32 (gN (scO a0 l0 d0 s0 n0 c0 hub0 tip0 u1) (fop .mul .f32 (canon .f32 u1) (canon .f32 tip0)))]) := Lib.hid (GB_9.out.below b)
      have XM_5 : Hid (OwnT wd18 wd6.heap.size gR1 gR2 gR3 gR4 gg1 gg2 gg3 gg4 (marks 1 (gLp (scO a0 l0 d0 s0 n0 c0 hub0 tip0 u1) a0).length) (marks (1 + (gLp (scO a0 l0 d0 s0 n0 c0 hub0 tip0 u1) a0).length) (gLp (scO a0 l0 d0 s0 n0 c0 hub0 tip0 u1) l0).length) (marks (1 + (gLp (scO a0 l0 d0 s0 n0 c0 hub0 tip0 u1) a0).length + (gLp (scO a0 l0 d0 s0 n0 c0 hub0 tip0 u1) l0).length) (gLp (scO a0 l0 d0 s0 n0 c0 hub0 tip0 u1) d0).length) (marks (1 + (gLp (scO a0 l0 d0 s0 n0 c0 hub0 tip0 u1) a0).length + (gLp (scO a0 l0 d0 s0 n0 c0 hub0 tip0 u1) l0).length + (gLp (scO a0 l0 d0 s0 n0 c0 hub0 tip0 u1) d0).length) ((gN (scO a0 l0 d0 s0 n0 c0 hub0 tip0 u1) n0) * 3))) := Lib.hid (XM_4.out.below b)
      have Xh_2 : Hid (OwnT wd18 wd15.heap.size hR1 hR2 hR3 hR4 hg1 hg2 hg3 hg4 (gLp (scO a0 l0 d0 s0 n0 c0 hub0 tip0 u1) a0) (gLp (scO a0 l0 d0 s0 n0 c0 hub0 tip0 u1) l0) (gLp (scO a0 l0 d0 s0 n0 c0 hub0 tip0 u1) d0) (gLp (scO a0 l0 d0 s0 n0 c0 hub0 tip0 u1) (mp3 (scG u1) s0))) := Lib.hid (Xh_1.out.below b)
      have HB_1 : Hid (BlkL wd18 (wd16.heap.size) [.slice hR1 (gLp (scO a0 l0 d0 s0 n0 c0 hub0 tip0 u1) a0).length hc1, .slice hR2 (gLp (scO a0 l0 d0 s0 n0 c0 hub0 tip0 u1) l0).length hc2, .slice hR3 (gLp (scO a0 l0 d0 s0 n0 c0 hub0 tip0 u1) d0).length hc3, .slice hR4 (gN (scO a0 l0 d0 s0 n0 c0 hub0 tip0 u1) n0) hc4, .int .i64 (gC (scO a0 l0 d0 s0 n0 c0 hub0 tip0 u1) c0), .float .f32 (gN (scO a0 l0 d0 s0 n0 c0 hub0 tip0 u1) (fop .mul .f32 (canon .f32 u1) (canon .f32 hub0))), .float .f32 (gN (scO a0 l0 d0 s0 n0 c0 hub0 tip0 u1) (fop .mul .f32 (canon .f32 u1) (canon .f32 tip0)))]) := Lib.hid (HB.out.below b)
      clear K0x0 K0x1 K0x2 K0x3 K0x4 K0x5 K0x6 WBx0 WBx1 WBx2 WBx3 WBx4 WBx5 WBx6 V0x0 V0x1 V0x2 V0x3 V0x4 V0x5 V0x6 GBx0 GBx1 GBx2 GBx3 GBx4 GBx5 GBx6 HBx0 HBx1 HBx2 HBx3 HBx4 HBx5 HBx6
      clear K0_17 Xc_14 WB_13 V0_11 GB_9 XM_4 Xh_1 HB
      clear b
      obtain ⟨K0x0, K0x1, K0x2, K0x3, K0x4, K0x5, K0x6⟩ := K0_18.out.sevenT
      obtain ⟨WBx0, WBx1, WBx2, WBx3, WBx4, WBx5, WBx6⟩ := WB_14.out.sevenT
      obtain ⟨V0x0, V0x1, V0x2, V0x3, V0x4, V0x5, V0x6⟩ := V0_12.out.sevenT
      obtain ⟨GBx0, GBx1, GBx2, GBx3, GBx4, GBx5, GBx6⟩ := GB_10.out.sevenT
      obtain ⟨HBx0, HBx1, HBx2, HBx3, HBx4, HBx5, HBx6⟩ := HB_1.out.sevenT
      go_wp2_with fail
      refine (l_heldRotor _ _ _ _ _ _ _ _ _ _ _ _ _ _ 1 _ _ _ _ _ _ _ (XM_5.out) HF.out.2 (by omega) _ rfl).mono ?_
      rintro e wd19 ⟨rfl, b⟩
      have B19 : Hid (Below w.heap.size w wd19) := Lib.hid (below_of B18.out B18.out.size b)
      have Z19 : Hid (wd18.heap.size ≤ wd19.heap.size) := Lib.hid b.size
      have K0_19 : Hid (BlkL wd19 (w.heap.size) [.slice A0 a0.length ca0, .slice L0 l0.length cl0, .slice D0 d0.length cd0, .slice S0 n0 cs0, .int .i64 c0, .float .f32 hub0, .float .f32 tip0]) := Lib.hid (K0_18.out.below b)
      have Xc_16 : Hid (OwnT wd19 wd2.heap.size cR1 cR2 cR3 cR4 cg1 cg2 cg3 cg4 (gLp (scO a0 l0 d0 s0 n0 c0 hub0 tip0 u1) a0) (gLp (scO a0 l0 d0 s0 n0 c0 hub0 tip0 u1) l0) (gLp (scO a0 l0 d0 s0 n0 c0 hub0 tip0 u1) d0) (gLp (scO a0 l0 d0 s0 n0 c0 hub0 tip0 u1) (mp3 (scG u1) s0))) := Lib.hid (Xc_15.out.below b)
      have WB_15 : Hid (BlkL wd19 (wd3.heap.size) [.slice cR1 (gLp (scO a0 l0 d0 s0 n0 c0 hub0 tip0 u1) a0).length cc1, .slice cR2 (gLp (scO a0 l0 d0 s0 n0 c0 hub0 tip0 u1) l0).length cc2, .slice cR3 (gLp (scO a0 l0 d0 s0 n0 c0 hub0 tip0 u1) d0).length cc3, .slice cR4 (gN (scO a0 l0 d0 s0 n0 c0 hub0 tip0 u1) n0) cc4, .int .i64 (gC (scO a0 l0 d0 s0 n0 c0 hub0 tip0 u1) c0), .float .f32 (gN (scO a0 l0 d0 s0 n0 c0 hub0 tip0 u1) (fop .mul .f32 (canon .f32 u1) (canon .f32 hub0))), .float .f32 (gN (scO a0 l0 d0 s0 n0 c0 hub0 tip0 u1) (fop .mul .f32 (canon .f32 u1) (canon .f32 tip0)))]) := Lib.hid (WB_14.out.below b)
      have V0_13 : Hid (BlkL wd19 (wd5.heap.size) [.slice (some ⟨x01, 0, none⟩) a0.length a0.length, .slice (some ⟨x02, 0, none⟩) l0.length l0.length, .slice (some ⟨x03, 0, none⟩) d0.length d0.length, .slice (some ⟨x04, 0, none⟩) n0 n0, .int .i64 c0, .float .f32 hub0, .float .f32 tip0]) := Lib.hid (V0_12.out.below b)
      have GB_11 : Hid (BlkL wd19 (wd7.heap.size) [.slice gR1 (gLp (scO a0 l0 d0 s0 n0 c0 hub0 tip0 u1) a0).length gc1, .slice gR2 (gLp (scO a0 l0 d0 s0 n0 c0 hub0 tip0 u1) l0).length gc2, .slice gR3 (gLp (scO a0 l0 d0 s0 n0 c0 hub0 tip0 u1) d0).length gc3, .slice gR4 (gN (scO a0 l0 d0 s0 n0 c0 hub0 tip0 u1) n0) gc4, .int .i64 (gC (scO a0 l0 d0 s0 n0 c0 hub0 tip0 u1) c0), .float .f32 (gN (scO a0 l0 d0 s0 n0 c0 hub0 tip0 u1) (fop .mul .f32 (canon .f32 u1) (canon .f32 hub0))), .float .f32 (gN (scO a0 l0 d0 s0 n0 c0 hub0 tip0 u1) (fop .mul .f32 (canon .f32 u1) (canon .f32 tip0)))]) := Lib.hid (GB_10.out.below b)
      have XM_6 : Hid (OwnT wd19 wd6.heap.size gR1 gR2 gR3 gR4 gg1 gg2 gg3 gg4 (marks 1 (gLp (scO a0 l0 d0 s0 n0 c0 hub0 tip0 u1) a0).length) (marks (1 + (gLp (scO a0 l0 d0 s0 n0 c0 hub0 tip0 u1) a0).length) (gLp (scO a0 l0 d0 s0 n0 c0 hub0 tip0 u1) l0).length) (marks (1 + (gLp (scO a0 l0 d0 s0 n0 c0 hub0 tip0 u1) a0).length + (gLp (scO a0 l0 d0 s0 n0 c0 hub0 tip0 u1) l0).length) (gLp (scO a0 l0 d0 s0 n0 c0 hub0 tip0 u1) d0).length) (marks (1 + (gLp (scO a0 l0 d0 s0 n0 c0 hub0 tip0 u1) a0).length + (gLp (scO a0 l0 d0 s0 n0 c0 hub0 tip0 u1) l0).length + (gLp (scO a0 l0 d0 s0 n0 c0 hub0 tip0 u1) d0).length) ((gN (scO a0 l0 d0 s0 n0 c0 hub0 tip0 u1) n0) * 3))) := Lib.hid (XM_5.out.below b)
      have Xh_3 : Hid (OwnT wd19 wd15.heap.size hR1 hR2 hR3 hR4 hg1 hg2 hg3 hg4 (gLp (scO a0 l0 d0 s0 n0 c0 hub0 tip0 u1) a0) (gLp (scO a0 l0 d0 s0 n0 c0 hub0 tip0 u1) l0) (gLp (scO a0 l0 d0 s0 n0 c0 hub0 tip0 u1) d0) (gLp (scO a0 l0 d0 s0 n0 c0 hub0 tip0 u1) (mp3 (scG u1) s0))) := Lib.hid (Xh_2.out.below b)
      have HB_2 : Hid (BlkL wd19 (wd16.heap.size) [.slice hR1 (gLp (scO a0 l0 d0 s0 n0 c0 hub0 tip0 u1) a0).length hc1, .slice hR2 (gLp (scO a0 l0 d0 s0 n0 c0 hub0 tip0 u1) l0).length hc2, .slice hR3 (gLp (scO a0 l0 d0 s0 n0 c0 hub0 tip0 u1) d0).length hc3, .slice hR4 (gN (scO a0 l0 d0 s0 n0 c0 hub0 tip0 u1) n0) hc4, .int .i64 (gC (scO a0 l0 d0 s0 n0 c0 hub0 tip0 u1) c0), .float .f32 (gN (scO a0 l0 d0 s0 n0 c0 hub0 tip0 u1) (fop .mul .f32 (canon .f32 u1) (canon .f32 hub0))), .float .f32 (gN (scO a0 l0 d0 s0 n0 c0 hub0 tip0 u1) (fop .mul .f32 (canon .f32 u1) (canon .f32 tip0)))]) := Lib.hid (HB_1.out.below b)
      clear K0x0 K0x1 K0x2 K0x3 K0x4 K0x5 K0x6 WBx0 WBx1 WBx2 WBx3 WBx4 WBx5 WBx6 V0x0 V0x1 V0x2 V0x3 V0x4 V0x5 V0x6 GBx0 GBx1 GBx2 GBx3 GBx4 GBx5 GBx6 HBx0 HBx1 HBx2 HBx3 HBx4 HBx5 HBx6
      clear K0_18 Xc_15 WB_14 V0_12 GB_10 XM_5 Xh_2 HB_1
      clear b
      obtain ⟨K0x0, K0x1, K0x2, K0x3, K0x4, K0x5, K0x6⟩ := K0_19.out.sevenT
      obtain ⟨WBx0, WBx1, WBx2, WBx3, WBx4, WBx5, WBx6⟩ := WB_15.out.sevenT
      obtain ⟨V0x0, V0x1, V0x2, V0x3, V0x4, V0x5, V0x6⟩ := V0_13.out.sevenT
      obtain ⟨GBx0, GBx1, GBx2, GBx3, GBx4, GBx5, GBx6⟩ := GB_11.out.sevenT
      obtain ⟨HBx0, HBx1, HBx2, HBx3, HBx4, HBx5, HBx6⟩ := HB_2.out.sevenT
      go_wp2
      go_ret
      exact ⟨rfl, B19.out⟩
  · skip
    obtain ⟨w0, hw0⟩ : ∃ x, x = (w.alloc (.cells #[.slice A0 a0.length ca0, .slice L0 l0.length cl0, .slice D0 d0.length cd0, .slice S0 n0 cs0, .int .i64 c0, .float .f32 hub0, .float .f32 tip0] 41)) := ⟨_, rfl⟩
    have B0 : Hid (Below w.heap.size w w0) := Lib.hid (by rw [hw0]; exact (Below.refl _ _).alloc (Nat.le_refl _) _)
    have Z0 : Hid (w0.heap.size = w.heap.size + 1) := Lib.hid (by rw [hw0]; simp)
    have K0 : Hid (BlkL w0 (w.heap.size) [.slice A0 a0.length ca0, .slice L0 l0.length cl0, .slice D0 d0.length cd0, .slice S0 n0 cs0, .int .i64 c0, .float .f32 hub0, .float .f32 tip0]) := Lib.hid (by rw [hw0]; exact blkL_at w #[.slice A0 a0.length ca0, .slice L0 l0.length cl0, .slice D0 d0.length cd0, .slice S0 n0 cs0, .int .i64 c0, .float .f32 hub0, .float .f32 tip0] 41 rfl)
    go_enter Try.func6, Try.ntmps6
    go_wp2_with fail
    rw [← hw0]
    clear hw0
    obtain ⟨K0x0, K0x1, K0x2, K0x3, K0x4, K0x5, K0x6⟩ := K0.out.sevenT
    go_wp2_with fail
    refine (l_szRotor_no A0 L0 D0 S0 _ ca0 _ cl0 _ cd0 n0 cs0 c0 hub0 tip0 _ _ (by omega) (by omega) (by omega) ma0 ml0 md0 ms0).mono ?_
    rintro e wd1 ⟨rfl, b⟩
    have B1 : Hid (Below w.heap.size w wd1) := Lib.hid (below_of B0.out B0.out.size b)
    have Z1 : Hid (w0.heap.size ≤ wd1.heap.size) := Lib.hid b.size
    have K0_1 : Hid (BlkL wd1 (w.heap.size) [.slice A0 a0.length ca0, .slice L0 l0.length cl0, .slice D0 d0.length cd0, .slice S0 n0 cs0, .int .i64 c0, .float .f32 hub0, .float .f32 tip0]) := Lib.hid (K0.out.below b)
    clear K0x0 K0x1 K0x2 K0x3 K0x4 K0x5 K0x6
    clear K0
    clear b
    obtain ⟨K0x0, K0x1, K0x2, K0x3, K0x4, K0x5, K0x6⟩ := K0_1.out.sevenT
    go_wp2
    go_ret
    exact ⟨rfl, B1.out⟩
end Go.Proofs.Ytiiiigldpbomkaa

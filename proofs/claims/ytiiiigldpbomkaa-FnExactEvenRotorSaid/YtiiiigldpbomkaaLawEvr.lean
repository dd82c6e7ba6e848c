/- The law FnExactEvenRotor. No statement is proved here. -/
import Derived.Test.YtiiiigldpbomkaaEvrI
import Derived.Test.YtiiiigldpbomkaaEvrS
import Derived.Test.YtiiiigldpbomkaaKeepR
import Derived.Test.YtiiiigldpbomkaaRotL
import Derived.Test.YtiiiigldpbomkaaInv4
namespace Go.Proofs.Ytiiiigldpbomkaa
open Go Go.RowKit
set_option maxHeartbeats 16000000 in
set_option maxRecDepth 100000 in
theorem law_FnExactEvenRotor (A0 L0 D0 : Option Addr) (ca0 cl0 cd0 : Nat) (a0 l0 d0 : List Nat) (u1 : Int) (u2 : Int) (u3 : Nat) (u4 : Nat) (u5 : Nat) (u6 : Nat) (w : World) (h0 : Pf w A0 L0 D0 a0 l0 d0) (ma0 : a0.length ≤ 9223372036854775807) (ml0 : l0.length ≤ 9223372036854775807) (md0 : d0.length ≤ 9223372036854775807) (hu1 : (Lit.int .i64 u1).wf = true) (hu2 : (Lit.int .i64 u2).wf = true) (_hu3 : u3 < words .f32) (_hu4 : u4 < words .f32) (_hu5 : u5 < words .f32) (_hu6 : u6 < words .f32) :
    Calls Try.prog 3 #[.agg #[.slice A0 a0.length ca0, .slice L0 l0.length cl0, .slice D0 d0.length cd0], .int .i64 u1, .int .i64 u2, .float .f32 u3, .float .f32 u4, .float .f32 u5, .float .f32 u6] w fun e w' => e = .returned (.bool true) ∧ Below w.heap.size w w' := by
  have HP0 := Lib.hid h0
  clear h0
  have HU1 := Lib.hid hu1
  clear hu1
  have HU2 := Lib.hid hu2
  clear hu2
  by_cases hn0 : a0.length + l0.length + d0.length ≤ 1048576
  · skip
    have HN0 : Hid (Few a0 l0 d0) := Lib.hid (by unfold Few; omega)
    have HF : Hid (FewR (gLp (evO a0 l0 d0 u1 u2 u3 u4 u5 u6) a0) (gLp (evO a0 l0 d0 u1 u2 u3 u4 u5 u6) l0) (gLp (evO a0 l0 d0 u1 u2 u3 u4 u5 u6) d0) (gLp (evO a0 l0 d0 u1 u2 u3 u4 u5 u6) (evS u2.toNat u3 u4 u5 u6)) (gN (evO a0 l0 d0 u1 u2 u3 u4 u5 u6) u2.toNat)) := Lib.hid (ev_few)
    obtain ⟨w0, hw0⟩ : ∃ x, x = (w.alloc (.cells #[.slice A0 a0.length ca0, .slice L0 l0.length cl0, .slice D0 d0.length cd0] 24)) := ⟨_, rfl⟩
    have B0 : Hid (Below w.heap.size w w0) := Lib.hid (by rw [hw0]; exact (Below.refl _ _).alloc (Nat.le_refl _) _)
    have Z0 : Hid (w0.heap.size = w.heap.size + 1) := Lib.hid (by rw [hw0]; simp)
    have K0 : Hid (BlkL w0 (w.heap.size) [.slice A0 a0.length ca0, .slice L0 l0.length cl0, .slice D0 d0.length cd0]) := Lib.hid (by rw [hw0]; exact blkL_at w #[.slice A0 a0.length ca0, .slice L0 l0.length cl0, .slice D0 d0.length cd0] 24 rfl)
    go_enter Try.func3, Try.ntmps3
    go_wp2_with fail
    rw [← hw0]
    clear hw0
    have hq0 : (0 : Int) ≤ 1048576 - (a0.length : Int) - (l0.length : Int) - (d0.length : Int) := by omega
    obtain ⟨K0x0, K0x1, K0x2⟩ := K0.out.three
    go_wp2_with fail
    refine (l_szProfile_yes A0 L0 D0 _ ca0 _ cl0 _ cd0 _ _ (by omega) (by omega)).mono ?_
    rintro e wd1 ⟨rfl, b⟩
    have B1 : Hid (Below w.heap.size w wd1) := Lib.hid (below_of B0.out B0.out.size b)
    have Z1 : Hid (w0.heap.size ≤ wd1.heap.size) := Lib.hid b.size
    have K0_1 : Hid (BlkL wd1 (w.heap.size) [.slice A0 a0.length ca0, .slice L0 l0.length cl0, .slice D0 d0.length cd0]) := Lib.hid (K0.out.below b)
    clear K0x0 K0x1 K0x2
    clear K0
    clear b
    obtain ⟨K0x0, K0x1, K0x2⟩ := K0_1.out.three
    go_wp2_with fail
    refine (l_toProfile A0 L0 D0 ca0 cl0 cd0 a0 l0 d0 _ (HP0.out.below B1.out) HN0.out).mono ?_
    rintro e wd2 ⟨p01, p02, p03, rfl, ho, b⟩
    have B2 : Hid (Below w.heap.size w wd2) := Lib.hid (below_of B1.out B1.out.size b)
    have Z2 : Hid (wd1.heap.size ≤ wd2.heap.size) := Lib.hid b.size
    have K0_2 : Hid (BlkL wd2 (w.heap.size) [.slice A0 a0.length ca0, .slice L0 l0.length cl0, .slice D0 d0.length cd0]) := Lib.hid (K0_1.out.below b)
    clear K0x0 K0x1 K0x2
    clear K0_1
    have Xp0 : Hid (OwnQ wd2 wd1.heap.size (some ⟨p01, 0, none⟩) (some ⟨p02, 0, none⟩) (some ⟨p03, 0, none⟩) p01 p02 p03 a0 l0 d0) := Lib.hid (OwnP.q ho)
    have Xp0bd := Xp0
    clear ho b
    obtain ⟨K0x0, K0x1, K0x2⟩ := K0_2.out.three
    go_wp2_with fail
    refine (s_EvenRotor _ _ _ _ _ _ a0 l0 d0 u1 u2 u3 u4 u5 u6 _ Xp0.out.pf HN0.out).mono ?_
    rintro e wd3 ⟨cR1, cR2, cR3, cR4, cc1, cc2, cc3, cc4, cg1, cg2, cg3, cg4, rfl, ho, b⟩
    have B3 : Hid (Below w.heap.size w wd3) := Lib.hid (below_of B2.out B2.out.size b)
    have Z3 : Hid (wd2.heap.size ≤ wd3.heap.size) := Lib.hid b.size
    have K0_3 : Hid (BlkL wd3 (w.heap.size) [.slice A0 a0.length ca0, .slice L0 l0.length cl0, .slice D0 d0.length cd0]) := Lib.hid (K0_2.out.below b)
    have Xp0_1 : Hid (OwnQ wd3 wd1.heap.size (some ⟨p01, 0, none⟩) (some ⟨p02, 0, none⟩) (some ⟨p03, 0, none⟩) p01 p02 p03 a0 l0 d0) := Lib.hid (Xp0.out.below b)
    clear K0x0 K0x1 K0x2
    clear K0_2 Xp0
    have Xc : Hid (OwnT wd3 wd2.heap.size cR1 cR2 cR3 cR4 cg1 cg2 cg3 cg4 (gLp (evO a0 l0 d0 u1 u2 u3 u4 u5 u6) a0) (gLp (evO a0 l0 d0 u1 u2 u3 u4 u5 u6) l0) (gLp (evO a0 l0 d0 u1 u2 u3 u4 u5 u6) d0) (gLp (evO a0 l0 d0 u1 u2 u3 u4 u5 u6) (evS u2.toNat u3 u4 u5 u6))) := Lib.hid (ho)
    have Xcbd := Xc
    clear ho
    clear b
    obtain ⟨wd4, hw4⟩ : ∃ x, x = wd3.alloc (.cells #[.slice cR1 (gLp (evO a0 l0 d0 u1 u2 u3 u4 u5 u6) a0).length cc1, .slice cR2 (gLp (evO a0 l0 d0 u1 u2 u3 u4 u5 u6) l0).length cc2, .slice cR3 (gLp (evO a0 l0 d0 u1 u2 u3 u4 u5 u6) d0).length cc3, .slice cR4 (gN (evO a0 l0 d0 u1 u2 u3 u4 u5 u6) u2.toNat) cc4, .int .i64 (gC (evO a0 l0 d0 u1 u2 u3 u4 u5 u6) u1), .float .f32 (gN (evO a0 l0 d0 u1 u2 u3 u4 u5 u6) u3), .float .f32 (gN (evO a0 l0 d0 u1 u2 u3 u4 u5 u6) u4)] 30) := ⟨_, rfl⟩
    have b : Below wd3.heap.size wd3 wd4 := by rw [hw4]; exact (Below.refl _ _).alloc (Nat.le_refl _) _
    have Y4 : Hid (wd3.heap.size + 1 ≤ wd4.heap.size) := Lib.hid (by rw [hw4]; simp)
    have B4 : Hid (Below w.heap.size w wd4) := Lib.hid (below_of B3.out B3.out.size b)
    have Z4 : Hid (wd3.heap.size ≤ wd4.heap.size) := Lib.hid b.size
    have K0_4 : Hid (BlkL wd4 (w.heap.size) [.slice A0 a0.length ca0, .slice L0 l0.length cl0, .slice D0 d0.length cd0]) := Lib.hid (K0_3.out.below b)
    have Xc_1 : Hid (OwnT wd4 wd2.heap.size cR1 cR2 cR3 cR4 cg1 cg2 cg3 cg4 (gLp (evO a0 l0 d0 u1 u2 u3 u4 u5 u6) a0) (gLp (evO a0 l0 d0 u1 u2 u3 u4 u5 u6) l0) (gLp (evO a0 l0 d0 u1 u2 u3 u4 u5 u6) d0) (gLp (evO a0 l0 d0 u1 u2 u3 u4 u5 u6) (evS u2.toNat u3 u4 u5 u6))) := Lib.hid (Xc.out.below b)
    have WB : Hid (BlkL wd4 (wd3.heap.size) [.slice cR1 (gLp (evO a0 l0 d0 u1 u2 u3 u4 u5 u6) a0).length cc1, .slice cR2 (gLp (evO a0 l0 d0 u1 u2 u3 u4 u5 u6) l0).length cc2, .slice cR3 (gLp (evO a0 l0 d0 u1 u2 u3 u4 u5 u6) d0).length cc3, .slice cR4 (gN (evO a0 l0 d0 u1 u2 u3 u4 u5 u6) u2.toNat) cc4, .int .i64 (gC (evO a0 l0 d0 u1 u2 u3 u4 u5 u6) u1), .float .f32 (gN (evO a0 l0 d0 u1 u2 u3 u4 u5 u6) u3), .float .f32 (gN (evO a0 l0 d0 u1 u2 u3 u4 u5 u6) u4)]) := Lib.hid (by rw [hw4]; exact blkL_at wd3 #[.slice cR1 (gLp (evO a0 l0 d0 u1 u2 u3 u4 u5 u6) a0).length cc1, .slice cR2 (gLp (evO a0 l0 d0 u1 u2 u3 u4 u5 u6) l0).length cc2, .slice cR3 (gLp (evO a0 l0 d0 u1 u2 u3 u4 u5 u6) d0).length cc3, .slice cR4 (gN (evO a0 l0 d0 u1 u2 u3 u4 u5 u6) u2.toNat) cc4, .int .i64 (gC (evO a0 l0 d0 u1 u2 u3 u4 u5 u6) u1), .float .f32 (gN (evO a0 l0 d0 u1 u2 u3 u4 u5 u6) u3), .float .f32 (gN (evO a0 l0 d0 u1 u2 u3 u4 u5 u6) u4)] 30 rfl)
    clear b
    have K0y0 := fun o => ((K0_3.out.alloc o).2 0 _ rfl).1
    have K0y1 := fun o => ((K0_3.out.alloc o).2 1 _ rfl).1
    have K0y2 := fun o => ((K0_3.out.alloc o).2 2 _ rfl).1
    go_wp2_with fail
    rw [← hw4]
    clear hw4
    clear K0y0 K0y1 K0y2
    clear K0_3 Xc
    obtain ⟨K0x0, K0x1, K0x2⟩ := K0_4.out.three
    obtain ⟨WBx0, WBx1, WBx2, WBx3, WBx4, WBx5, WBx6⟩ := WB.out.sevenT
    go_wp2_with fail
    refine (l_toProfile A0 L0 D0 ca0 cl0 cd0 a0 l0 d0 _ (HP0.out.below B4.out) HN0.out).mono ?_
    rintro e wd5 ⟨x01, x02, x03, rfl, ho, b⟩
    have B5 : Hid (Below w.heap.size w wd5) := Lib.hid (below_of B4.out B4.out.size b)
    have Z5 : Hid (wd4.heap.size ≤ wd5.heap.size) := Lib.hid b.size
    have K0_5 : Hid (BlkL wd5 (w.heap.size) [.slice A0 a0.length ca0, .slice L0 l0.length cl0, .slice D0 d0.length cd0]) := Lib.hid (K0_4.out.below b)
    have Xc_2 : Hid (OwnT wd5 wd2.heap.size cR1 cR2 cR3 cR4 cg1 cg2 cg3 cg4 (gLp (evO a0 l0 d0 u1 u2 u3 u4 u5 u6) a0) (gLp (evO a0 l0 d0 u1 u2 u3 u4 u5 u6) l0) (gLp (evO a0 l0 d0 u1 u2 u3 u4 u5 u6) d0) (gLp (evO a0 l0 d0 u1 u2 u3 u4 u5 u6) (evS u2.toNat u3 u4 u5 u6))) := Lib.hid (Xc_1.out.below b)
    have WB_1 : Hid (BlkL wd5 (wd3.heap.size) [.slice cR1 (gLp (evO a0 l0 d0 u1 u2 u3 u4 u5 u6) a0).length cc1, .slice cR2 (gLp (evO a0 l0 d0 u1 u2 u3 u4 u5 u6) l0).length cc2, .slice cR3 (gLp (evO a0 l0 d0 u1 u2 u3 u4 u5 u6) d0).length cc3, .slice cR4 (gN (evO a0 l0 d0 u1 u2 u3 u4 u5 u6) u2.toNat) cc4, .int .i64 (gC (evO a0 l0 d0 u1 u2 u3 u4 u5 u6) u1), .float .f32 (gN (evO a0 l0 d0 u1 u2 u3 u4 u5 u6) u3), .float .f32 (gN (evO a0 l0 d0 u1 u2 u3 u4 u5 u6) u4)]) := Lib.hid (WB.out.below b)
    clear K0x0 K0x1 K0x2 WBx0 WBx1 WBx2 WBx3 WBx4 WBx5 WBx6
    clear K0_4 Xc_1 WB
    have Xx0 : Hid (OwnQ wd5 wd4.heap.size (some ⟨x01, 0, none⟩) (some ⟨x02, 0, none⟩) (some ⟨x03, 0, none⟩) x01 x02 x03 a0 l0 d0) := Lib.hid (OwnP.q ho)
    have Xx0bd := Xx0
    clear ho b
    obtain ⟨wd6, hw6⟩ : ∃ x, x = wd5.alloc (.cells #[.slice (some ⟨x01, 0, none⟩) a0.length a0.length, .slice (some ⟨x02, 0, none⟩) l0.length l0.length, .slice (some ⟨x03, 0, none⟩) d0.length d0.length] 27) := ⟨_, rfl⟩
    have b : Below wd5.heap.size wd5 wd6 := by rw [hw6]; exact (Below.refl _ _).alloc (Nat.le_refl _) _
    have Y6 : Hid (wd5.heap.size + 1 ≤ wd6.heap.size) := Lib.hid (by rw [hw6]; simp)
    have B6 : Hid (Below w.heap.size w wd6) := Lib.hid (below_of B5.out B5.out.size b)
    have Z6 : Hid (wd5.heap.size ≤ wd6.heap.size) := Lib.hid b.size
    have K0_6 : Hid (BlkL wd6 (w.heap.size) [.slice A0 a0.length ca0, .slice L0 l0.length cl0, .slice D0 d0.length cd0]) := Lib.hid (K0_5.out.below b)
    have Xc_3 : Hid (OwnT wd6 wd2.heap.size cR1 cR2 cR3 cR4 cg1 cg2 cg3 cg4 (gLp (evO a0 l0 d0 u1 u2 u3 u4 u5 u6) a0) (gLp (evO a0 l0 d0 u1 u2 u3 u4 u5 u6) l0) (gLp (evO a0 l0 d0 u1 u2 u3 u4 u5 u6) d0) (gLp (evO a0 l0 d0 u1 u2 u3 u4 u5 u6) (evS u2.toNat u3 u4 u5 u6))) := Lib.hid (Xc_2.out.below b)
    have WB_2 : Hid (BlkL wd6 (wd3.heap.size) [.slice cR1 (gLp (evO a0 l0 d0 u1 u2 u3 u4 u5 u6) a0).length cc1, .slice cR2 (gLp (evO a0 l0 d0 u1 u2 u3 u4 u5 u6) l0).length cc2, .slice cR3 (gLp (evO a0 l0 d0 u1 u2 u3 u4 u5 u6) d0).length cc3, .slice cR4 (gN (evO a0 l0 d0 u1 u2 u3 u4 u5 u6) u2.toNat) cc4, .int .i64 (gC (evO a0 l0 d0 u1 u2 u3 u4 u5 u6) u1), .float .f32 (gN (evO a0 l0 d0 u1 u2 u3 u4 u5 u6) u3), .float .f32 (gN (evO a0 l0 d0 u1 u2 u3 u4 u5 u6) u4)]) := Lib.hid (WB_1.out.below b)
    have Xx0_1 : Hid (OwnQ wd6 wd4.heap.size (some ⟨x01, 0, none⟩) (some ⟨x02, 0, none⟩) (some ⟨x03, 0, none⟩) x01 x02 x03 a0 l0 d0) := Lib.hid (Xx0.out.below b)
    have V0 : Hid (BlkL wd6 (wd5.heap.size) [.slice (some ⟨x01, 0, none⟩) a0.length a0.length, .slice (some ⟨x02, 0, none⟩) l0.length l0.length, .slice (some ⟨x03, 0, none⟩) d0.length d0.length]) := Lib.hid (by rw [hw6]; exact blkL_at wd5 #[.slice (some ⟨x01, 0, none⟩) a0.length a0.length, .slice (some ⟨x02, 0, none⟩) l0.length l0.length, .slice (some ⟨x03, 0, none⟩) d0.length d0.length] 27 rfl)
    clear b
    have K0y0 := fun o => ((K0_5.out.alloc o).2 0 _ rfl).1
    have K0y1 := fun o => ((K0_5.out.alloc o).2 1 _ rfl).1
    have K0y2 := fun o => ((K0_5.out.alloc o).2 2 _ rfl).1
    have WBy0 := fun o => ((WB_1.out.alloc o).2 0 _ rfl).1
    have WBy1 := fun o => ((WB_1.out.alloc o).2 1 _ rfl).1
    have WBy2 := fun o => ((WB_1.out.alloc o).2 2 _ rfl).1
    have WBy3 := fun o => ((WB_1.out.alloc o).2 3 _ rfl).1
    have WBy4 := fun o => ((WB_1.out.alloc o).2 4 _ rfl).1
    have WBy5 := fun o => ((WB_1.out.alloc o).2 5 _ rfl).1
    have WBy6 := fun o => ((WB_1.out.alloc o).2 6 _ rfl).1
    go_wp2_with fail
    rw [← hw6]
    clear hw6
    clear K0y0 K0y1 K0y2 WBy0 WBy1 WBy2 WBy3 WBy4 WBy5 WBy6
    clear K0_5 Xc_2 WB_1 Xx0
    obtain ⟨K0x0, K0x1, K0x2⟩ := K0_6.out.three
    obtain ⟨WBx0, WBx1, WBx2, WBx3, WBx4, WBx5, WBx6⟩ := WB_2.out.sevenT
    obtain ⟨V0x0, V0x1, V0x2⟩ := V0.out.three
    go_wp2_with fail
    refine (i_EvenRotor _ _ _ _ _ _ a0 l0 d0 u1 u2 u3 u4 u5 u6 _ Xx0_1.out.pf HN0.out).mono ?_
    rintro e wd7 ⟨gR1, gR2, gR3, gR4, gc1, gc2, gc3, gc4, gg1, gg2, gg3, gg4, rfl, ho, b⟩
    have B7 : Hid (Below w.heap.size w wd7) := Lib.hid (below_of B6.out B6.out.size b)
    have Z7 : Hid (wd6.heap.size ≤ wd7.heap.size) := Lib.hid b.size
    have K0_7 : Hid (BlkL wd7 (w.heap.size) [.slice A0 a0.length ca0, .slice L0 l0.length cl0, .slice D0 d0.length cd0]) := Lib.hid (K0_6.out.below b)
    have Xc_4 : Hid (OwnT wd7 wd2.heap.size cR1 cR2 cR3 cR4 cg1 cg2 cg3 cg4 (gLp (evO a0 l0 d0 u1 u2 u3 u4 u5 u6) a0) (gLp (evO a0 l0 d0 u1 u2 u3 u4 u5 u6) l0) (gLp (evO a0 l0 d0 u1 u2 u3 u4 u5 u6) d0) (gLp (evO a0 l0 d0 u1 u2 u3 u4 u5 u6) (evS u2.toNat u3 u4 u5 u6))) := Lib.hid (Xc_3.out.below b)
    have WB_3 : Hid (BlkL wd7 (wd3.heap.size) [.slice cR1 (gLp (evO a0 l0 d0 u1 u2 u3 u4 u5 u6) a0).length cc1, .slice cR2 (gLp (evO a0 l0 d0 u1 u2 u3 u4 u5 u6) l0).length cc2, .slice cR3 (gLp (evO a0 l0 d0 u1 u2 u3 u4 u5 u6) d0).length cc3, .slice cR4 (gN (evO a0 l0 d0 u1 u2 u3 u4 u5 u6) u2.toNat) cc4, .int .i64 (gC (evO a0 l0 d0 u1 u2 u3 u4 u5 u6) u1), .float .f32 (gN (evO a0 l0 d0 u1 u2 u3 u4 u5 u6) u3), .float .f32 (gN (evO a0 l0 d0 u1 u2 u3 u4 u5 u6) u4)]) := Lib.hid (WB_2.out.below b)
    have Xx0_2 : Hid (OwnQ wd7 wd4.heap.size (some ⟨x01, 0, none⟩) (some ⟨x02, 0, none⟩) (some ⟨x03, 0, none⟩) x01 x02 x03 a0 l0 d0) := Lib.hid (Xx0_1.out.below b)
    have V0_1 : Hid (BlkL wd7 (wd5.heap.size) [.slice (some ⟨x01, 0, none⟩) a0.length a0.length, .slice (some ⟨x02, 0, none⟩) l0.length l0.length, .slice (some ⟨x03, 0, none⟩) d0.length d0.length]) := Lib.hid (V0.out.below b)
    clear K0x0 K0x1 K0x2 WBx0 WBx1 WBx2 WBx3 WBx4 WBx5 WBx6 V0x0 V0x1 V0x2
    clear K0_6 Xc_3 WB_2 Xx0_1 V0
    have Xg : Hid (OwnT wd7 wd6.heap.size gR1 gR2 gR3 gR4 gg1 gg2 gg3 gg4 (gLp (evO a0 l0 d0 u1 u2 u3 u4 u5 u6) a0) (gLp (evO a0 l0 d0 u1 u2 u3 u4 u5 u6) l0) (gLp (evO a0 l0 d0 u1 u2 u3 u4 u5 u6) d0) (gLp (evO a0 l0 d0 u1 u2 u3 u4 u5 u6) (evS u2.toNat u3 u4 u5 u6))) := Lib.hid (ho)
    have Xgbd := Xg
    clear ho
    clear b
    obtain ⟨wd8, hw8⟩ : ∃ x, x = wd7.alloc (.cells #[.slice gR1 (gLp (evO a0 l0 d0 u1 u2 u3 u4 u5 u6) a0).length gc1, .slice gR2 (gLp (evO a0 l0 d0 u1 u2 u3 u4 u5 u6) l0).length gc2, .slice gR3 (gLp (evO a0 l0 d0 u1 u2 u3 u4 u5 u6) d0).length gc3, .slice gR4 (gN (evO a0 l0 d0 u1 u2 u3 u4 u5 u6) u2.toNat) gc4, .int .i64 (gC (evO a0 l0 d0 u1 u2 u3 u4 u5 u6) u1), .float .f32 (gN (evO a0 l0 d0 u1 u2 u3 u4 u5 u6) u3), .float .f32 (gN (evO a0 l0 d0 u1 u2 u3 u4 u5 u6) u4)] 30) := ⟨_, rfl⟩
    have b : Below wd7.heap.size wd7 wd8 := by rw [hw8]; exact (Below.refl _ _).alloc (Nat.le_refl _) _
    have Y8 : Hid (wd7.heap.size + 1 ≤ wd8.heap.size) := Lib.hid (by rw [hw8]; simp)
    have B8 : Hid (Below w.heap.size w wd8) := Lib.hid (below_of B7.out B7.out.size b)
    have Z8 : Hid (wd7.heap.size ≤ wd8.heap.size) := Lib.hid b.size
    have K0_8 : Hid (BlkL wd8 (w.heap.size) [.slice A0 a0.length ca0, .slice L0 l0.length cl0, .slice D0 d0.length cd0]) := Lib.hid (K0_7.out.below b)
    have Xc_5 : Hid (OwnT wd8 wd2.heap.size cR1 cR2 cR3 cR4 cg1 cg2 cg3 cg4 (gLp (evO a0 l0 d0 u1 u2 u3 u4 u5 u6) a0) (gLp (evO a0 l0 d0 u1 u2 u3 u4 u5 u6) l0) (gLp (evO a0 l0 d0 u1 u2 u3 u4 u5 u6) d0) (gLp (evO a0 l0 d0 u1 u2 u3 u4 u5 u6) (evS u2.toNat u3 u4 u5 u6))) := Lib.hid (Xc_4.out.below b)
    have WB_4 : Hid (BlkL wd8 (wd3.heap.size) [.slice cR1 (gLp (evO a0 l0 d0 u1 u2 u3 u4 u5 u6) a0).length cc1, .slice cR2 (gLp (evO a0 l0 d0 u1 u2 u3 u4 u5 u6) l0).length cc2, .slice cR3 (gLp (evO a0 l0 d0 u1 u2 u3 u4 u5 u6) d0).length cc3, .slice cR4 (gN (evO a0 l0 d0 u1 u2 u3 u4 u5 u6) u2.toNat) cc4, .int .i64 (gC (evO a0 l0 d0 u1 u2 u3 u4 u5 u6) u1), .float .f32 (gN (evO a0 l0 d0 u1 u2 u3 u4 u5 u6) u3), .float .f32 (gN (evO a0 l0 d0 u1 u2 u3 u4 u5 u6) u4)]) := Lib.hid (WB_3.out.below b)
    have Xx0_3 : Hid (OwnQ wd8 wd4.heap.size (some ⟨x01, 0, none⟩) (some ⟨x02, 0, none⟩) (some ⟨x03, 0, none⟩) x01 x02 x03 a0 l0 d0) := Lib.hid (Xx0_2.out.below b)
    have V0_2 : Hid (BlkL wd8 (wd5.heap.size) [.slice (some ⟨x01, 0, none⟩) a0.length a0.length, .slice (some ⟨x02, 0, none⟩) l0.length l0.length, .slice (some ⟨x03, 0, none⟩) d0.length d0.length]) := Lib.hid (V0_1.out.below b)
    have Xg_1 : Hid (OwnT wd8 wd6.heap.size gR1 gR2 gR3 gR4 gg1 gg2 gg3 gg4 (gLp (evO a0 l0 d0 u1 u2 u3 u4 u5 u6) a0) (gLp (evO a0 l0 d0 u1 u2 u3 u4 u5 u6) l0) (gLp (evO a0 l0 d0 u1 u2 u3 u4 u5 u6) d0) (gLp (evO a0 l0 d0 u1 u2 u3 u4 u5 u6) (evS u2.toNat u3 u4 u5 u6))) := Lib.hid (Xg.out.below b)
    have GB : Hid (BlkL wd8 (wd7.heap.size) [.slice gR1 (gLp (evO a0 l0 d0 u1 u2 u3 u4 u5 u6) a0).length gc1, .slice gR2 (gLp (evO a0 l0 d0 u1 u2 u3 u4 u5 u6) l0).length gc2, .slice gR3 (gLp (evO a0 l0 d0 u1 u2 u3 u4 u5 u6) d0).length gc3, .slice gR4 (gN (evO a0 l0 d0 u1 u2 u3 u4 u5 u6) u2.toNat) gc4, .int .i64 (gC (evO a0 l0 d0 u1 u2 u3 u4 u5 u6) u1), .float .f32 (gN (evO a0 l0 d0 u1 u2 u3 u4 u5 u6) u3), .float .f32 (gN (evO a0 l0 d0 u1 u2 u3 u4 u5 u6) u4)]) := Lib.hid (by rw [hw8]; exact blkL_at wd7 #[.slice gR1 (gLp (evO a0 l0 d0 u1 u2 u3 u4 u5 u6) a0).length gc1, .slice gR2 (gLp (evO a0 l0 d0 u1 u2 u3 u4 u5 u6) l0).length gc2, .slice gR3 (gLp (evO a0 l0 d0 u1 u2 u3 u4 u5 u6) d0).length gc3, .slice gR4 (gN (evO a0 l0 d0 u1 u2 u3 u4 u5 u6) u2.toNat) gc4, .int .i64 (gC (evO a0 l0 d0 u1 u2 u3 u4 u5 u6) u1), .float .f32 (gN (evO a0 l0 d0 u1 u2 u3 u4 u5 u6) u3), .float .f32 (gN (evO a0 l0 d0 u1 u2 u3 u4 u5 u6) u4)] 30 rfl)
    clear b
    have K0y0 := fun o => ((K0_7.out.alloc o).2 0 _ rfl).1
    have K0y1 := fun o => ((K0_7.out.alloc o).2 1 _ rfl).1
    have K0y2 := fun o => ((K0_7.out.alloc o).2 2 _ rfl).1
    have WBy0 := fun o => ((WB_3.out.alloc o).2 0 _ rfl).1
    have WBy1 := fun o => ((WB_3.out.alloc o).2 1 _ rfl).1
    have WBy2 := fun o => ((WB_3.out.alloc o).2 2 _ rfl).1
    have WBy3 := fun o => ((WB_3.out.alloc o).2 3 _ rfl).1
    have WBy4 := fun o => ((WB_3.out.alloc o).2 4 _ rfl).1
    have WBy5 := fun o => ((WB_3.out.alloc o).2 5 _ rfl).1
    have WBy6 := fun o => ((WB_3.out.alloc o).2 6 _ rfl).1
    have V0y0 := fun o => ((V0_1.out.alloc o).2 0 _ rfl).1
    have V0y1 := fun o => ((V0_1.out.alloc o).2 1 _ rfl).1
    have V0y2 := fun o => ((V0_1.out.alloc o).2 2 _ rfl).1
    go_wp2_with fail
    rw [← hw8]
    clear hw8
    clear K0y0 K0y1 K0y2 WBy0 WBy1 WBy2 WBy3 WBy4 WBy5 WBy6 V0y0 V0y1 V0y2
    clear K0_7 Xc_4 WB_3 Xx0_2 V0_1 Xg
    obtain ⟨K0x0, K0x1, K0x2⟩ := K0_8.out.three
    obtain ⟨WBx0, WBx1, WBx2, WBx3, WBx4, WBx5, WBx6⟩ := WB_4.out.sevenT
    obtain ⟨V0x0, V0x1, V0x2⟩ := V0_2.out.three
    obtain ⟨GBx0, GBx1, GBx2, GBx3, GBx4, GBx5, GBx6⟩ := GB.out.sevenT
    go_wp2_with fail
    refine (l_eqRotor _ _ _ _ _ _ _ _ _ _ _ _ _ _ _ _ _ _ _ _ (gLp (evO a0 l0 d0 u1 u2 u3 u4 u5 u6) a0) (gLp (evO a0 l0 d0 u1 u2 u3 u4 u5 u6) l0) (gLp (evO a0 l0 d0 u1 u2 u3 u4 u5 u6) d0) (gLp (evO a0 l0 d0 u1 u2 u3 u4 u5 u6) (evS u2.toNat u3 u4 u5 u6)) _ Xg_1.out.rt Xc_5.out.rt HF.out).mono ?_
    rintro e wd9 ⟨rfl, b⟩
    have B9 : Hid (Below w.heap.size w wd9) := Lib.hid (below_of B8.out B8.out.size b)
    have Z9 : Hid (wd8.heap.size ≤ wd9.heap.size) := Lib.hid b.size
    have K0_9 : Hid (BlkL wd9 (w.heap.size) [.slice A0 a0.length ca0, .slice L0 l0.length cl0, .slice D0 d0.length cd0]) := Lib.hid (K0_8.out.below b)
    have Xc_6 : Hid (OwnT wd9 wd2.heap.size cR1 cR2 cR3 cR4 cg1 cg2 cg3 cg4 (gLp (evO a0 l0 d0 u1 u2 u3 u4 u5 u6) a0) (gLp (evO a0 l0 d0 u1 u2 u3 u4 u5 u6) l0) (gLp (evO a0 l0 d0 u1 u2 u3 u4 u5 u6) d0) (gLp (evO a0 l0 d0 u1 u2 u3 u4 u5 u6) (evS u2.toNat u3 u4 u5 u6))) := Lib.hid (Xc_5.out.below b)
    have WB_5 : Hid (BlkL wd9 (wd3.heap.size) [.slice cR1 (gLp (evO a0 l0 d0 u1 u2 u3 u4 u5 u6) a0).length cc1, .slice cR2 (gLp (evO a0 l0 d0 u1 u2 u3 u4 u5 u6) l0).length cc2, .slice cR3 (gLp (evO a0 l0 d0 u1 u2 u3 u4 u5 u6) d0).length cc3, .slice cR4 (gN (evO a0 l0 d0 u1 u2 u3 u4 u5 u6) u2.toNat) cc4, .int .i64 (gC (evO a0 l0 d0 u1 u2 u3 u4 u5 u6) u1), .float .f32 (gN (evO a0 l0 d0 u1 u2 u3 u4 u5 u6) u3), .float .f32 (gN (evO a0 l0 d0 u1 u2 u3 u4 u5 u6) u4)]) := Lib.hid (WB_4.out.below b)
    have Xx0_4 : Hid (OwnQ wd9 wd4.heap.size (some ⟨x01, 0, none⟩) (some ⟨x02, 0, none⟩) (some ⟨x03, 0, none⟩) x01 x02 x03 a0 l0 d0) := Lib.hid (Xx0_3.out.below b)
    have V0_3 : Hid (BlkL wd9 (wd5.heap.size) [.slice (some ⟨x01, 0, none⟩) a0.length a0.length, .slice (some ⟨x02, 0, none⟩) l0.length l0.length, .slice (some ⟨x03, 0, none⟩) d0.length d0.length]) := Lib.hid (V0_2.out.below b)
    have Xg_2 : Hid (OwnT wd9 wd6.heap.size gR1 gR2 gR3 gR4 gg1 gg2 gg3 gg4 (gLp (evO a0 l0 d0 u1 u2 u3 u4 u5 u6) a0) (gLp (evO a0 l0 d0 u1 u2 u3 u4 u5 u6) l0) (gLp (evO a0 l0 d0 u1 u2 u3 u4 u5 u6) d0) (gLp (evO a0 l0 d0 u1 u2 u3 u4 u5 u6) (evS u2.toNat u3 u4 u5 u6))) := Lib.hid (Xg_1.out.below b)
    have GB_1 : Hid (BlkL wd9 (wd7.heap.size) [.slice gR1 (gLp (evO a0 l0 d0 u1 u2 u3 u4 u5 u6) a0).length gc1, .slice gR2 (gLp (evO a0 l0 d0 u1 u2 u3 u4 u5 u6) l0).length gc2, .slice gR3 (gLp (evO a0 l0 d0 u1 u2 u3 u4 u5 u6) d0).length gc3, .slice gR4 (gN (evO a0 l0 d0 u1 u2 u3 u4 u5 u6) u2.toNat) gc4, .int .i64 (gC (evO a0 l0 d0 u1 u2 u3 u4 u5 u6) u1), .float .f32 (gN (evO a0 l0 d0 u1 u2 u3 u4 u5 u6) u3), .float .f32 (gN (evO a0 l0 d0 u1 u2 u3 u4 u5 u6) u4)]) := Lib.hid (GB.out.below b)
    clear K0x0 K0x1 K0x2 WBx0 WBx1 WBx2 WBx3 WBx4 WBx5 WBx6 V0x0 V0x1 V0x2 GBx0 GBx1 GBx2 GBx3 GBx4 GBx5 GBx6
    clear K0_8 Xc_5 WB_4 Xx0_3 V0_2 Xg_1 GB
    clear b
    obtain ⟨K0x0, K0x1, K0x2⟩ := K0_9.out.three
    obtain ⟨WBx0, WBx1, WBx2, WBx3, WBx4, WBx5, WBx6⟩ := WB_5.out.sevenT
    obtain ⟨V0x0, V0x1, V0x2⟩ := V0_3.out.three
    obtain ⟨GBx0, GBx1, GBx2, GBx3, GBx4, GBx5, GBx6⟩ := GB_1.out.sevenT
    go_wp2_with fail
    clear K0x0 K0x1 K0x2 WBx0 WBx1 WBx2 WBx3 WBx4 WBx5 WBx6 V0x0 V0x1 V0x2 GBx0 GBx1 GBx2 GBx3 GBx4 GBx5 GBx6
    refine wp_region_inv4 (fun iq wv v => match iq with
      | 0 => v = .agg #[.slice (some ⟨x01, 0, none⟩) a0.length a0.length, .slice (some ⟨x02, 0, none⟩) l0.length l0.length, .slice (some ⟨x03, 0, none⟩) d0.length d0.length]
      | 1 => v = .agg #[.slice A0 a0.length ca0, .slice L0 l0.length cl0, .slice D0 d0.length cd0]
      | 2 => ∃ q1 q2 q3, v = .agg #[.slice (some ⟨q1, 0, none⟩) a0.length a0.length, .slice (some ⟨q2, 0, none⟩) l0.length l0.length, .slice (some ⟨q3, 0, none⟩) d0.length d0.length] ∧ OwnQ wv wd9.heap.size (some ⟨q1, 0, none⟩) (some ⟨q2, 0, none⟩) (some ⟨q3, 0, none⟩) q1 q2 q3 a0 l0 d0
      | 3 => v = .bool true
      | 4 => v = .bool false
      | _ => False) (fun _ ww => Below wd9.heap.size wd9 ww) (fun w w' => Below w.heap.size w w') ?hmono (by kernel_rfl) (by kernel_rfl) ((Below.refl _ _).drew) ?hop ?hend
    case hmono =>
      intro i wa wb v hR hV
      rcases i with _ | _ | _ | _ | _ | i
      · exact hV
      · exact hV
      · obtain ⟨q1, q2, q3, rfl, ho⟩ := hV; exact ⟨q1, q2, q3, rfl, ho.below hR⟩
      · exact hV
      · exact hV
      · exact hV
    case hop =>
      intro q o hq listed act w3 hI hnot hcl hall
      have hB := hI.cls
      obtain ⟨K0x0, K0x1, K0x2⟩ := (K0_9.out.below hB).three
      obtain ⟨WBx0, WBx1, WBx2, WBx3, WBx4, WBx5, WBx6⟩ := (WB_5.out.below hB).sevenT
      obtain ⟨V0x0, V0x1, V0x2⟩ := (V0_3.out.below hB).three
      obtain ⟨GBx0, GBx1, GBx2, GBx3, GBx4, GBx5, GBx6⟩ := (GB_1.out.below hB).sevenT
      rcases q with _ | _ | _ | _ | _ | q
      · simp at hq; subst hq
        have g18 : act.tmps[18]?.getD undef = .pointer (some ⟨wd5.heap.size, 0, none⟩) := hI.kept 18 (by kernel_rfl)
        clear hI hall hnot hcl
        refine .inl ⟨wanted_none rfl, ?_⟩
        unfold Oper.wp
        go_simp
        all_goals first | exact ⟨_, rfl, Below.refl _ _, rfl, hB⟩ | exact ⟨Below.refl _ _, hB⟩ | exact Below.refl _ _
      · simp at hq; subst hq
        have g7 : act.tmps[7]?.getD undef = .pointer (some ⟨w.heap.size, 0, none⟩) := hI.kept 7 (by kernel_rfl)
        clear hI hall hnot hcl
        refine .inl ⟨wanted_none rfl, ?_⟩
        unfold Oper.wp
        go_simp
        all_goals first | exact ⟨_, rfl, Below.refl _ _, rfl, hB⟩ | exact ⟨Below.refl _ _, hB⟩ | exact Below.refl _ _
      · simp at hq; subst hq
        have g66 : act.tmps[66]?.getD undef = .agg #[.slice A0 a0.length ca0, .slice L0 l0.length cl0, .slice D0 d0.length cd0] := hI.has 1 66 rfl (hall ⟨1, .data⟩ (by simp) rfl)
        clear hI hall hnot hcl
        refine .inl ⟨wanted_none rfl, ?_⟩
        unfold Oper.wp
        go_simp
        refine (l_toProfile A0 L0 D0 ca0 cl0 cd0 a0 l0 d0 _ (HP0.out.below (below_of B9.out B9.out.size hB)) HN0.out).mono ?_
        rintro e w4 ⟨q1, q2, q3, rfl, ho, b4⟩
        exact ⟨_, rfl, b4, ⟨q1, q2, q3, rfl, OwnP.q (⟨by have := ho.1; have := hB.size; omega, ho.2⟩ : OwnP _ _ _ _ _ _ _ _)⟩, below_of hB hB.size b4⟩
      · simp at hq; subst hq
        have g65 : act.tmps[65]?.getD undef = .agg #[.slice (some ⟨x01, 0, none⟩) a0.length a0.length, .slice (some ⟨x02, 0, none⟩) l0.length l0.length, .slice (some ⟨x03, 0, none⟩) d0.length d0.length] := hI.has 0 65 rfl (hall ⟨0, .data⟩ (by simp) rfl)
        obtain ⟨q12, q22, q32, g67, h2a⟩ := hI.has 2 67 rfl (hall ⟨2, .data⟩ (by simp) rfl)
        clear hI hall hnot hcl
        refine .inl ⟨wanted_none rfl, ?_⟩
        unfold Oper.wp
        go_simp
        refine (l_eqProfile _ _ _ _ _ _ _ _ _ _ _ _ a0 l0 d0 _ (Xx0_4.out.below hB).pf h2a.pf HN0.out).mono ?_
        rintro e w4 ⟨rfl, b4⟩
        exact ⟨_, rfl, b4, rfl, below_of hB hB.size b4⟩
      · simp at hq; subst hq
        have g68 : act.tmps[68]?.getD undef = .bool true := hI.has 3 68 rfl (hall ⟨3, .data⟩ (by simp) rfl)
        clear hI hall hnot hcl
        refine .inl ⟨wanted_none rfl, ?_⟩
        unfold Oper.wp
        go_simp
        all_goals first | exact ⟨_, rfl, Below.refl _ _, rfl, hB⟩ | exact ⟨Below.refl _ _, hB⟩ | exact Below.refl _ _
      · simp at hq
    case hend =>
      intro listed act w3 hI hall
      have hB := hI.cls
      obtain ⟨K0x0, K0x1, K0x2⟩ := (K0_9.out.below hB).three
      obtain ⟨WBx0, WBx1, WBx2, WBx3, WBx4, WBx5, WBx6⟩ := (WB_5.out.below hB).sevenT
      obtain ⟨V0x0, V0x1, V0x2⟩ := (V0_3.out.below hB).three
      obtain ⟨GBx0, GBx1, GBx2, GBx3, GBx4, GBx5, GBx6⟩ := (GB_1.out.below hB).sevenT
      have g69 : act.tmps[69]?.getD undef = .bool false := hI.has 4 69 rfl (hall 4 (by decide))
      have g0 := hI.kept 0 (by kernel_rfl)
      conv at g0 => rhs; whnf
      have g1 := hI.kept 1 (by kernel_rfl)
      conv at g1 => rhs; whnf
      have g2 := hI.kept 2 (by kernel_rfl)
      conv at g2 => rhs; whnf
      have g3 := hI.kept 3 (by kernel_rfl)
      conv at g3 => rhs; whnf
      have g4 := hI.kept 4 (by kernel_rfl)
      conv at g4 => rhs; whnf
      have g5 := hI.kept 5 (by kernel_rfl)
      conv at g5 => rhs; whnf
      have g6 := hI.kept 6 (by kernel_rfl)
      conv at g6 => rhs; whnf
      have g7 := hI.kept 7 (by kernel_rfl)
      conv at g7 => rhs; whnf
      have g8 : act.tmps[8]?.getD undef = undef := hI.kept 8 (by kernel_rfl)
      have g9 : act.tmps[9]?.getD undef = undef := hI.kept 9 (by kernel_rfl)
      have g10 : act.tmps[10]?.getD undef = undef := hI.kept 10 (by kernel_rfl)
      have g11 : act.tmps[11]?.getD undef = undef := hI.kept 11 (by kernel_rfl)
      have g12 : act.tmps[12]?.getD undef = undef := hI.kept 12 (by kernel_rfl)
      have g13 : act.tmps[13]?.getD undef = undef := hI.kept 13 (by kernel_rfl)
      have g14 := hI.kept 14 (by kernel_rfl)
      conv at g14 => rhs; whnf
      have g15 := hI.kept 15 (by kernel_rfl)
      conv at g15 => rhs; whnf
      have g16 := hI.kept 16 (by kernel_rfl)
      conv at g16 => rhs; whnf
      have g17 := hI.kept 17 (by kernel_rfl)
      conv at g17 => rhs; whnf
      have g18 := hI.kept 18 (by kernel_rfl)
      conv at g18 => rhs; whnf
      have g19 := hI.kept 19 (by kernel_rfl)
      conv at g19 => rhs; whnf
      have g20 := hI.kept 20 (by kernel_rfl)
      conv at g20 => rhs; whnf
      have g21 : act.tmps[21]?.getD undef = undef := hI.kept 21 (by kernel_rfl)
      have g22 : act.tmps[22]?.getD undef = undef := hI.kept 22 (by kernel_rfl)
      have g23 : act.tmps[23]?.getD undef = undef := hI.kept 23 (by kernel_rfl)
      have g24 : act.tmps[24]?.getD undef = undef := hI.kept 24 (by kernel_rfl)
      have g25 : act.tmps[25]?.getD undef = undef := hI.kept 25 (by kernel_rfl)
      have g26 := hI.kept 26 (by kernel_rfl)
      conv at g26 => rhs; whnf
      have g27 := hI.kept 27 (by kernel_rfl)
      conv at g27 => rhs; whnf
      have g28 := hI.kept 28 (by kernel_rfl)
      conv at g28 => rhs; whnf
      have g29 := hI.kept 29 (by kernel_rfl)
      conv at g29 => rhs; whnf
      have g30 := hI.kept 30 (by kernel_rfl)
      conv at g30 => rhs; whnf
      have g31 := hI.kept 31 (by kernel_rfl)
      conv at g31 => rhs; whnf
      have g32 := hI.kept 32 (by kernel_rfl)
      conv at g32 => rhs; whnf
      have g33 := hI.kept 33 (by kernel_rfl)
      conv at g33 => rhs; whnf
      have g34 := hI.kept 34 (by kernel_rfl)
      conv at g34 => rhs; whnf
      have g35 := hI.kept 35 (by kernel_rfl)
      conv at g35 => rhs; whnf
      have g36 := hI.kept 36 (by kernel_rfl)
      conv at g36 => rhs; whnf
      have g37 := hI.kept 37 (by kernel_rfl)
      conv at g37 => rhs; whnf
      have g38 := hI.kept 38 (by kernel_rfl)
      conv at g38 => rhs; whnf
      have g39 := hI.kept 39 (by kernel_rfl)
      conv at g39 => rhs; whnf
      have g40 := hI.kept 40 (by kernel_rfl)
      conv at g40 => rhs; whnf
      have g41 := hI.kept 41 (by kernel_rfl)
      conv at g41 => rhs; whnf
      have g42 := hI.kept 42 (by kernel_rfl)
      conv at g42 => rhs; whnf
      have g43 := hI.kept 43 (by kernel_rfl)
      conv at g43 => rhs; whnf
      have g44 := hI.kept 44 (by kernel_rfl)
      conv at g44 => rhs; whnf
      have g45 := hI.kept 45 (by kernel_rfl)
      conv at g45 => rhs; whnf
      have g46 := hI.kept 46 (by kernel_rfl)
      conv at g46 => rhs; whnf
      have g47 := hI.kept 47 (by kernel_rfl)
      conv at g47 => rhs; whnf
      have g48 := hI.kept 48 (by kernel_rfl)
      conv at g48 => rhs; whnf
      have g49 := hI.kept 49 (by kernel_rfl)
      conv at g49 => rhs; whnf
      have g50 := hI.kept 50 (by kernel_rfl)
      conv at g50 => rhs; whnf
      have g51 := hI.kept 51 (by kernel_rfl)
      conv at g51 => rhs; whnf
      have g52 := hI.kept 52 (by kernel_rfl)
      conv at g52 => rhs; whnf
      have g53 := hI.kept 53 (by kernel_rfl)
      conv at g53 => rhs; whnf
      have g54 := hI.kept 54 (by kernel_rfl)
      conv at g54 => rhs; whnf
      have g55 := hI.kept 55 (by kernel_rfl)
      conv at g55 => rhs; whnf
      have g56 := hI.kept 56 (by kernel_rfl)
      conv at g56 => rhs; whnf
      have g57 := hI.kept 57 (by kernel_rfl)
      conv at g57 => rhs; whnf
      have g58 := hI.kept 58 (by kernel_rfl)
      conv at g58 => rhs; whnf
      have g59 := hI.kept 59 (by kernel_rfl)
      conv at g59 => rhs; whnf
      have g60 := hI.kept 60 (by kernel_rfl)
      conv at g60 => rhs; whnf
      have g61 := hI.kept 61 (by kernel_rfl)
      conv at g61 => rhs; whnf
      have g62 := hI.kept 62 (by kernel_rfl)
      conv at g62 => rhs; whnf
      have g63 := hI.kept 63 (by kernel_rfl)
      conv at g63 => rhs; whnf
      have g64 := hI.kept 64 (by kernel_rfl)
      conv at g64 => rhs; whnf
      have g70 : act.tmps[70]?.getD undef = undef := hI.kept 70 (by kernel_rfl)
      have g71 : act.tmps[71]?.getD undef = undef := hI.kept 71 (by kernel_rfl)
      have g72 : act.tmps[72]?.getD undef = undef := hI.kept 72 (by kernel_rfl)
      have g73 : act.tmps[73]?.getD undef = undef := hI.kept 73 (by kernel_rfl)
      have g74 : act.tmps[74]?.getD undef = undef := hI.kept 74 (by kernel_rfl)
      have g75 : act.tmps[75]?.getD undef = undef := hI.kept 75 (by kernel_rfl)
      have g76 : act.tmps[76]?.getD undef = undef := hI.kept 76 (by kernel_rfl)
      have g77 : act.tmps[77]?.getD undef = undef := hI.kept 77 (by kernel_rfl)
      have g78 : act.tmps[78]?.getD undef = undef := hI.kept 78 (by kernel_rfl)
      have g79 : act.tmps[79]?.getD undef = undef := hI.kept 79 (by kernel_rfl)
      have g80 : act.tmps[80]?.getD undef = undef := hI.kept 80 (by kernel_rfl)
      have g81 : act.tmps[81]?.getD undef = undef := hI.kept 81 (by kernel_rfl)
      have g82 : act.tmps[82]?.getD undef = undef := hI.kept 82 (by kernel_rfl)
      have g83 : act.tmps[83]?.getD undef = undef := hI.kept 83 (by kernel_rfl)
      have g84 : act.tmps[84]?.getD undef = undef := hI.kept 84 (by kernel_rfl)
      have g85 : act.tmps[85]?.getD undef = undef := hI.kept 85 (by kernel_rfl)
      have g86 : act.tmps[86]?.getD undef = undef := hI.kept 86 (by kernel_rfl)
      have g87 : act.tmps[87]?.getD undef = undef := hI.kept 87 (by kernel_rfl)
      have g88 : act.tmps[88]?.getD undef = undef := hI.kept 88 (by kernel_rfl)
      have g89 : act.tmps[89]?.getD undef = undef := hI.kept 89 (by kernel_rfl)
      have g90 : act.tmps[90]?.getD undef = undef := hI.kept 90 (by kernel_rfl)
      have g91 : act.tmps[91]?.getD undef = undef := hI.kept 91 (by kernel_rfl)
      have g92 : act.tmps[92]?.getD undef = undef := hI.kept 92 (by kernel_rfl)
      have g93 : act.tmps[93]?.getD undef = undef := hI.kept 93 (by kernel_rfl)
      have g94 : act.tmps[94]?.getD undef = undef := hI.kept 94 (by kernel_rfl)
      have g95 : act.tmps[95]?.getD undef = undef := hI.kept 95 (by kernel_rfl)
      have g96 : act.tmps[96]?.getD undef = undef := hI.kept 96 (by kernel_rfl)
      have g97 : act.tmps[97]?.getD undef = undef := hI.kept 97 (by kernel_rfl)
      have g98 : act.tmps[98]?.getD undef = undef := hI.kept 98 (by kernel_rfl)
      have g99 : act.tmps[99]?.getD undef = undef := hI.kept 99 (by kernel_rfl)
      have g100 : act.tmps[100]?.getD undef = undef := hI.kept 100 (by kernel_rfl)
      have g101 : act.tmps[101]?.getD undef = undef := hI.kept 101 (by kernel_rfl)
      have g102 : act.tmps[102]?.getD undef = undef := hI.kept 102 (by kernel_rfl)
      have g103 : act.tmps[103]?.getD undef = undef := hI.kept 103 (by kernel_rfl)
      have g104 : act.tmps[104]?.getD undef = undef := hI.kept 104 (by kernel_rfl)
      have g105 : act.tmps[105]?.getD undef = undef := hI.kept 105 (by kernel_rfl)
      have g106 : act.tmps[106]?.getD undef = undef := hI.kept 106 (by kernel_rfl)
      have g107 : act.tmps[107]?.getD undef = undef := hI.kept 107 (by kernel_rfl)
      have g108 : act.tmps[108]?.getD undef = undef := hI.kept 108 (by kernel_rfl)
      have g109 : act.tmps[109]?.getD undef = undef := hI.kept 109 (by kernel_rfl)
      have g110 : act.tmps[110]?.getD undef = undef := hI.kept 110 (by kernel_rfl)
      have g111 : act.tmps[111]?.getD undef = undef := hI.kept 111 (by kernel_rfl)
      have g112 : act.tmps[112]?.getD undef = undef := hI.kept 112 (by kernel_rfl)
      have g113 : act.tmps[113]?.getD undef = undef := hI.kept 113 (by kernel_rfl)
      have g114 : act.tmps[114]?.getD undef = undef := hI.kept 114 (by kernel_rfl)
      have g115 : act.tmps[115]?.getD undef = undef := hI.kept 115 (by kernel_rfl)
      have g116 : act.tmps[116]?.getD undef = undef := hI.kept 116 (by kernel_rfl)
      have g117 : act.tmps[117]?.getD undef = undef := hI.kept 117 (by kernel_rfl)
      have g118 : act.tmps[118]?.getD undef = undef := hI.kept 118 (by kernel_rfl)
      have g119 : act.tmps[119]?.getD undef = undef := hI.kept 119 (by kernel_rfl)
      have g120 : act.tmps[120]?.getD undef = undef := hI.kept 120 (by kernel_rfl)
      have g121 : act.tmps[121]?.getD undef = undef := hI.kept 121 (by kernel_rfl)
      have g122 : act.tmps[122]?.getD undef = undef := hI.kept 122 (by kernel_rfl)
      have g123 : act.tmps[123]?.getD undef = undef := hI.kept 123 (by kernel_rfl)
      have g124 : act.tmps[124]?.getD undef = undef := hI.kept 124 (by kernel_rfl)
      have g125 : act.tmps[125]?.getD undef = undef := hI.kept 125 (by kernel_rfl)
      have hsz : act.tmps.size = 126 := hI.size.trans (by kernel_rfl)
      have hd := hI.defers
      clear hI hall K0x0 K0x1 K0x2 WBx0 WBx1 WBx2 WBx3 WBx4 WBx5 WBx6 V0x0 V0x1 V0x2 GBx0 GBx1 GBx2 GBx3 GBx4 GBx5 GBx6
      obtain ⟨tt, dd⟩ := act
      simp only at g0 g1 g2 g3 g4 g5 g6 g7 g8 g9 g10 g11 g12 g13 g14 g15 g16 g17 g18 g19 g20 g21 g22 g23 g24 g25 g26 g27 g28 g29 g30 g31 g32 g33 g34 g35 g36 g37 g38 g39 g40 g41 g42 g43 g44 g45 g46 g47 g48 g49 g50 g51 g52 g53 g54 g55 g56 g57 g58 g59 g60 g61 g62 g63 g64 g69 g70 g71 g72 g73 g74 g75 g76 g77 g78 g79 g80 g81 g82 g83 g84 g85 g86 g87 g88 g89 g90 g91 g92 g93 g94 g95 g96 g97 g98 g99 g100 g101 g102 g103 g104 g105 g106 g107 g108 g109 g110 g111 g112 g113 g114 g115 g116 g117 g118 g119 g120 g121 g122 g123 g124 g125 hsz hd
      subst hd
      have hl : tt = #[tt[0]?.getD undef, tt[1]?.getD undef, tt[2]?.getD undef, tt[3]?.getD undef, tt[4]?.getD undef, tt[5]?.getD undef, tt[6]?.getD undef, tt[7]?.getD undef, tt[8]?.getD undef, tt[9]?.getD undef, tt[10]?.getD undef, tt[11]?.getD undef, tt[12]?.getD undef, tt[13]?.getD undef, tt[14]?.getD undef, tt[15]?.getD undef, tt[16]?.getD undef, tt[17]?.getD undef, tt[18]?.getD undef, tt[19]?.getD undef, tt[20]?.getD undef, tt[21]?.getD undef, tt[22]?.getD undef, tt[23]?.getD undef, tt[24]?.getD undef, tt[25]?.getD undef, tt[26]?.getD undef, tt[27]?.getD undef, tt[28]?.getD undef, tt[29]?.getD undef, tt[30]?.getD undef, tt[31]?.getD undef, tt[32]?.getD undef, tt[33]?.getD undef, tt[34]?.getD undef, tt[35]?.getD undef, tt[36]?.getD undef, tt[37]?.getD undef, tt[38]?.getD undef, tt[39]?.getD undef, tt[40]?.getD undef, tt[41]?.getD undef, tt[42]?.getD undef, tt[43]?.getD undef, tt[44]?.getD undef, tt[45]?.getD undef, tt[46]?.getD undef, tt[47]?.getD undef, tt[48]?.getD undef, tt[49]?.getD undef, tt[50]?.getD undef, tt[51]?.getD undef, tt[52]?.getD undef, tt[53]?.getD undef, tt[54]?.getD undef, tt[55]?.getD undef, tt[56]?.getD undef, tt[57]?.getD undef, tt[58]?.getD undef, tt[59]?.getD undef, tt[60]?.getD undef, tt[61]?.getD undef, tt[62]?.getD undef, tt[63]?.getD undef, tt[64]?.getD undef, tt[65]?.getD undef, tt[66]?.getD undef, tt[67]?.getD undef, tt[68]?.getD undef, tt[69]?.getD undef, tt[70]?.getD undef, tt[71]?.getD undef, tt[72]?.getD undef, tt[73]?.getD undef, tt[74]?.getD undef, tt[75]?.getD undef, tt[76]?.getD undef, tt[77]?.getD undef, tt[78]?.getD undef, tt[79]?.getD undef, tt[80]?.getD undef, tt[81]?.getD undef, tt[82]?.getD undef, tt[83]?.getD undef, tt[84]?.getD undef, tt[85]?.getD undef, tt[86]?.getD undef, tt[87]?.getD undef, tt[88]?.getD undef, tt[89]?.getD undef, tt[90]?.getD undef, tt[91]?.getD undef, tt[92]?.getD undef, tt[93]?.getD undef, tt[94]?.getD undef, tt[95]?.getD undef, tt[96]?.getD undef, tt[97]?.getD undef, tt[98]?.getD undef, tt[99]?.getD undef, tt[100]?.getD undef, tt[101]?.getD undef, tt[102]?.getD undef, tt[103]?.getD undef, tt[104]?.getD undef, tt[105]?.getD undef, tt[106]?.getD undef, tt[107]?.getD undef, tt[108]?.getD undef, tt[109]?.getD undef, tt[110]?.getD undef, tt[111]?.getD undef, tt[112]?.getD undef, tt[113]?.getD undef, tt[114]?.getD undef, tt[115]?.getD undef, tt[116]?.getD undef, tt[117]?.getD undef, tt[118]?.getD undef, tt[119]?.getD undef, tt[120]?.getD undef, tt[121]?.getD undef, tt[122]?.getD undef, tt[123]?.getD undef, tt[124]?.getD undef, tt[125]?.getD undef] := (arr_lit hsz).trans rfl
      rw [g0, g1, g2, g3, g4, g5, g6, g7, g8, g9, g10, g11, g12, g13, g14, g15, g16, g17, g18, g19, g20, g21, g22, g23, g24, g25, g26, g27, g28, g29, g30, g31, g32, g33, g34, g35, g36, g37, g38, g39, g40, g41, g42, g43, g44, g45, g46, g47, g48, g49, g50, g51, g52, g53, g54, g55, g56, g57, g58, g59, g60, g61, g62, g63, g64, g69, g70, g71, g72, g73, g74, g75, g76, g77, g78, g79, g80, g81, g82, g83, g84, g85, g86, g87, g88, g89, g90, g91, g92, g93, g94, g95, g96, g97, g98, g99, g100, g101, g102, g103, g104, g105, g106, g107, g108, g109, g110, g111, g112, g113, g114, g115, g116, g117, g118, g119, g120, g121, g122, g123, g124, g125] at hl
      clear g0 g1 g2 g3 g4 g5 g6 g7 g8 g9 g10 g11 g12 g13 g14 g15 g16 g17 g18 g19 g20 g21 g22 g23 g24 g25 g26 g27 g28 g29 g30 g31 g32 g33 g34 g35 g36 g37 g38 g39 g40 g41 g42 g43 g44 g45 g46 g47 g48 g49 g50 g51 g52 g53 g54 g55 g56 g57 g58 g59 g60 g61 g62 g63 g64 g69 g70 g71 g72 g73 g74 g75 g76 g77 g78 g79 g80 g81 g82 g83 g84 g85 g86 g87 g88 g89 g90 g91 g92 g93 g94 g95 g96 g97 g98 g99 g100 g101 g102 g103 g104 g105 g106 g107 g108 g109 g110 g111 g112 g113 g114 g115 g116 g117 g118 g119 g120 g121 g122 g123 g124 g125 hsz
      generalize tt[65]?.getD undef = y65 at hl
      generalize tt[66]?.getD undef = y66 at hl
      generalize tt[67]?.getD undef = y67 at hl
      generalize tt[68]?.getD undef = y68 at hl
      subst hl
      obtain ⟨wd10, hww⟩ : ∃ x, x = w3 := ⟨_, rfl⟩
      rw [← hww] at hB ⊢
      clear hww
      have B10 : Hid (Below w.heap.size w wd10) := Lib.hid (below_of B9.out B9.out.size hB)
      have Z10 : Hid (wd9.heap.size ≤ wd10.heap.size) := Lib.hid hB.size
      have K0_10 : Hid (BlkL wd10 (w.heap.size) [.slice A0 a0.length ca0, .slice L0 l0.length cl0, .slice D0 d0.length cd0]) := Lib.hid (K0_9.out.below hB)
      have Xc_7 : Hid (OwnT wd10 wd2.heap.size cR1 cR2 cR3 cR4 cg1 cg2 cg3 cg4 (gLp (evO a0 l0 d0 u1 u2 u3 u4 u5 u6) a0) (gLp (evO a0 l0 d0 u1 u2 u3 u4 u5 u6) l0) (gLp (evO a0 l0 d0 u1 u2 u3 u4 u5 u6) d0) (gLp (evO a0 l0 d0 u1 u2 u3 u4 u5 u6) (evS u2.toNat u3 u4 u5 u6))) := Lib.hid (Xc_6.out.below hB)
      have WB_6 : Hid (BlkL wd10 (wd3.heap.size) [.slice cR1 (gLp (evO a0 l0 d0 u1 u2 u3 u4 u5 u6) a0).length cc1, .slice cR2 (gLp (evO a0 l0 d0 u1 u2 u3 u4 u5 u6) l0).length cc2, .slice cR3 (gLp (evO a0 l0 d0 u1 u2 u3 u4 u5 u6) d0).length cc3, .slice cR4 (gN (evO a0 l0 d0 u1 u2 u3 u4 u5 u6) u2.toNat) cc4, .int .i64 (gC (evO a0 l0 d0 u1 u2 u3 u4 u5 u6) u1), .float .f32 (gN (evO a0 l0 d0 u1 u2 u3 u4 u5 u6) u3), .float .f32 (gN (evO a0 l0 d0 u1 u2 u3 u4 u5 u6) u4)]) := Lib.hid (WB_5.out.below hB)
      have Xx0_5 : Hid (OwnQ wd10 wd4.heap.size (some ⟨x01, 0, none⟩) (some ⟨x02, 0, none⟩) (some ⟨x03, 0, none⟩) x01 x02 x03 a0 l0 d0) := Lib.hid (Xx0_4.out.below hB)
      have V0_4 : Hid (BlkL wd10 (wd5.heap.size) [.slice (some ⟨x01, 0, none⟩) a0.length a0.length, .slice (some ⟨x02, 0, none⟩) l0.length l0.length, .slice (some ⟨x03, 0, none⟩) d0.length d0.length]) := Lib.hid (V0_3.out.below hB)
      have Xg_3 : Hid (OwnT wd10 wd6.heap.size gR1 gR2 gR3 gR4 gg1 gg2 gg3 gg4 (gLp (evO a0 l0 d0 u1 u2 u3 u4 u5 u6) a0) (gLp (evO a0 l0 d0 u1 u2 u3 u4 u5 u6) l0) (gLp (evO a0 l0 d0 u1 u2 u3 u4 u5 u6) d0) (gLp (evO a0 l0 d0 u1 u2 u3 u4 u5 u6) (evS u2.toNat u3 u4 u5 u6))) := Lib.hid (Xg_2.out.below hB)
      have GB_2 : Hid (BlkL wd10 (wd7.heap.size) [.slice gR1 (gLp (evO a0 l0 d0 u1 u2 u3 u4 u5 u6) a0).length gc1, .slice gR2 (gLp (evO a0 l0 d0 u1 u2 u3 u4 u5 u6) l0).length gc2, .slice gR3 (gLp (evO a0 l0 d0 u1 u2 u3 u4 u5 u6) d0).length gc3, .slice gR4 (gN (evO a0 l0 d0 u1 u2 u3 u4 u5 u6) u2.toNat) gc4, .int .i64 (gC (evO a0 l0 d0 u1 u2 u3 u4 u5 u6) u1), .float .f32 (gN (evO a0 l0 d0 u1 u2 u3 u4 u5 u6) u3), .float .f32 (gN (evO a0 l0 d0 u1 u2 u3 u4 u5 u6) u4)]) := Lib.hid (GB_1.out.below hB)
      clear K0_9 Xc_6 WB_5 Xx0_4 V0_3 Xg_2 GB_1
      clear hB
      obtain ⟨K0x0, K0x1, K0x2⟩ := K0_10.out.three
      obtain ⟨WBx0, WBx1, WBx2, WBx3, WBx4, WBx5, WBx6⟩ := WB_6.out.sevenT
      obtain ⟨V0x0, V0x1, V0x2⟩ := V0_4.out.three
      obtain ⟨GBx0, GBx1, GBx2, GBx3, GBx4, GBx5, GBx6⟩ := GB_2.out.sevenT
      go_wp2_with fail
      refine (l_markProfile _ _ _ _ _ _ _ _ _ _ (1) a0 l0 d0 _ (Xx0_5.out) HN0.out (by omega) _ (by omega)).mono ?_
      rintro e wd11 ⟨rfl, -, t⟩
      have B11 : Hid (Below w.heap.size w wd11) := Lib.hid (t.2.2.2 w B10.out (by intro b hh; have h1 := Xx0bd.out.bd hh; have := Z0.out; have := Z1.out; have := Z2.out; have := Z3.out; have := Z4.out; have := Y4.out; have := Z5.out; have := Z6.out; have := Y6.out; have := Z7.out; have := Z8.out; have := Y8.out; have := Z9.out; have := Z10.out; omega))
      have Z11 : Hid (wd10.heap.size ≤ wd11.heap.size) := Lib.hid t.1
      have K0_11 : Hid (BlkL wd11 (w.heap.size) [.slice A0 a0.length ca0, .slice L0 l0.length cl0, .slice D0 d0.length cd0]) := Lib.hid (K0_10.out.turnS t (by intro hh; have h1 := Xx0bd.out.bd hh; have := Z0.out; have := Z1.out; have := Z2.out; have := Z3.out; have := Z4.out; have := Y4.out; have := Z5.out; have := Z6.out; have := Y6.out; have := Z7.out; have := Z8.out; have := Y8.out; have := Z9.out; have := Z10.out; omega))
      have Xc_8 : Hid (OwnT wd11 wd2.heap.size cR1 cR2 cR3 cR4 cg1 cg2 cg3 cg4 (gLp (evO a0 l0 d0 u1 u2 u3 u4 u5 u6) a0) (gLp (evO a0 l0 d0 u1 u2 u3 u4 u5 u6) l0) (gLp (evO a0 l0 d0 u1 u2 u3 u4 u5 u6) d0) (gLp (evO a0 l0 d0 u1 u2 u3 u4 u5 u6) (evS u2.toNat u3 u4 u5 u6))) := Lib.hid (Xc_7.out.turnS t (by intro c hc hh; have h1 := Xx0bd.out.bd hh; have h2 := Xcbd.out.bd hc; have := Z0.out; have := Z1.out; have := Z2.out; have := Z3.out; have := Z4.out; have := Y4.out; have := Z5.out; have := Z6.out; have := Y6.out; have := Z7.out; have := Z8.out; have := Y8.out; have := Z9.out; have := Z10.out; omega))
      have WB_7 : Hid (BlkL wd11 (wd3.heap.size) [.slice cR1 (gLp (evO a0 l0 d0 u1 u2 u3 u4 u5 u6) a0).length cc1, .slice cR2 (gLp (evO a0 l0 d0 u1 u2 u3 u4 u5 u6) l0).length cc2, .slice cR3 (gLp (evO a0 l0 d0 u1 u2 u3 u4 u5 u6) d0).length cc3, .slice cR4 (gN (evO a0 l0 d0 u1 u2 u3 u4 u5 u6) u2.toNat) cc4, .int .i64 (gC (evO a0 l0 d0 u1 u2 u3 u4 u5 u6) u1), .float .f32 (gN (evO a0 l0 d0 u1 u2 u3 u4 u5 u6) u3), .float .f32 (gN (evO a0 l0 d0 u1 u2 u3 u4 u5 u6) u4)]) := Lib.hid (WB_6.out.turnS t (by intro hh; have h1 := Xx0bd.out.bd hh; have := Z0.out; have := Z1.out; have := Z2.out; have := Z3.out; have := Z4.out; have := Y4.out; have := Z5.out; have := Z6.out; have := Y6.out; have := Z7.out; have := Z8.out; have := Y8.out; have := Z9.out; have := Z10.out; omega))
      have V0_5 : Hid (BlkL wd11 (wd5.heap.size) [.slice (some ⟨x01, 0, none⟩) a0.length a0.length, .slice (some ⟨x02, 0, none⟩) l0.length l0.length, .slice (some ⟨x03, 0, none⟩) d0.length d0.length]) := Lib.hid (V0_4.out.turnS t (by intro hh; have h1 := Xx0bd.out.bd hh; have := Z0.out; have := Z1.out; have := Z2.out; have := Z3.out; have := Z4.out; have := Y4.out; have := Z5.out; have := Z6.out; have := Y6.out; have := Z7.out; have := Z8.out; have := Y8.out; have := Z9.out; have := Z10.out; omega))
      have Xg_4 : Hid (OwnT wd11 wd6.heap.size gR1 gR2 gR3 gR4 gg1 gg2 gg3 gg4 (gLp (evO a0 l0 d0 u1 u2 u3 u4 u5 u6) a0) (gLp (evO a0 l0 d0 u1 u2 u3 u4 u5 u6) l0) (gLp (evO a0 l0 d0 u1 u2 u3 u4 u5 u6) d0) (gLp (evO a0 l0 d0 u1 u2 u3 u4 u5 u6) (evS u2.toNat u3 u4 u5 u6))) := Lib.hid (Xg_3.out.turnS t (by intro c hc hh; have h1 := Xx0bd.out.bd hh; have h2 := Xgbd.out.bd hc; have := Z0.out; have := Z1.out; have := Z2.out; have := Z3.out; have := Z4.out; have := Y4.out; have := Z5.out; have := Z6.out; have := Y6.out; have := Z7.out; have := Z8.out; have := Y8.out; have := Z9.out; have := Z10.out; omega))
      have GB_3 : Hid (BlkL wd11 (wd7.heap.size) [.slice gR1 (gLp (evO a0 l0 d0 u1 u2 u3 u4 u5 u6) a0).length gc1, .slice gR2 (gLp (evO a0 l0 d0 u1 u2 u3 u4 u5 u6) l0).length gc2, .slice gR3 (gLp (evO a0 l0 d0 u1 u2 u3 u4 u5 u6) d0).length gc3, .slice gR4 (gN (evO a0 l0 d0 u1 u2 u3 u4 u5 u6) u2.toNat) gc4, .int .i64 (gC (evO a0 l0 d0 u1 u2 u3 u4 u5 u6) u1), .float .f32 (gN (evO a0 l0 d0 u1 u2 u3 u4 u5 u6) u3), .float .f32 (gN (evO a0 l0 d0 u1 u2 u3 u4 u5 u6) u4)]) := Lib.hid (GB_2.out.turnS t (by intro hh; have h1 := Xx0bd.out.bd hh; have := Z0.out; have := Z1.out; have := Z2.out; have := Z3.out; have := Z4.out; have := Y4.out; have := Z5.out; have := Z6.out; have := Y6.out; have := Z7.out; have := Z8.out; have := Y8.out; have := Z9.out; have := Z10.out; omega))
      clear K0x0 K0x1 K0x2 WBx0 WBx1 WBx2 WBx3 WBx4 WBx5 WBx6 V0x0 V0x1 V0x2 GBx0 GBx1 GBx2 GBx3 GBx4 GBx5 GBx6
      clear K0_10 Xc_7 WB_6 V0_4 Xg_3 GB_2
      clear t
      have hk0 : (0 : Int) ≤ ((1 : Nat) : Int) + (a0.length : Int) + (l0.length : Int) + (d0.length : Int) := by omega
      obtain ⟨K0x0, K0x1, K0x2⟩ := K0_11.out.three
      obtain ⟨WBx0, WBx1, WBx2, WBx3, WBx4, WBx5, WBx6⟩ := WB_7.out.sevenT
      obtain ⟨V0x0, V0x1, V0x2⟩ := V0_5.out.three
      obtain ⟨GBx0, GBx1, GBx2, GBx3, GBx4, GBx5, GBx6⟩ := GB_3.out.sevenT
      go_wp2_with fail
      refine (l_eqRotor _ _ _ _ _ _ _ _ _ _ _ _ _ _ _ _ _ _ _ _ (gLp (evO a0 l0 d0 u1 u2 u3 u4 u5 u6) a0) (gLp (evO a0 l0 d0 u1 u2 u3 u4 u5 u6) l0) (gLp (evO a0 l0 d0 u1 u2 u3 u4 u5 u6) d0) (gLp (evO a0 l0 d0 u1 u2 u3 u4 u5 u6) (evS u2.toNat u3 u4 u5 u6)) _ Xg_4.out.rt Xc_8.out.rt HF.out).mono ?_
      rintro e wd12 ⟨rfl, b⟩
      have B12 : Hid (Below w.heap.size w wd12) := Lib.hid (below_of B11.out B11.out.size b)
      have Z12 : Hid (wd11.heap.size ≤ wd12.heap.size) := Lib.hid b.size
      have K0_12 : Hid (BlkL wd12 (w.heap.size) [.slice A0 a0.length ca0, .slice L0 l0.length cl0, .slice D0 d0.length cd0]) := Lib.hid (K0_11.out.below b)
      have Xc_9 : Hid (OwnT wd12 wd2.heap.size cR1 cR2 cR3 cR4 cg1 cg2 cg3 cg4 (gLp (evO a0 l0 d0 u1 u2 u3 u4 u5 u6) a0) (gLp (evO a0 l0 d0 u1 u2 u3 u4 u5 u6) l0) (gLp (evO a0 l0 d0 u1 u2 u3 u4 u5 u6) d0) (gLp (evO a0 l0 d0 u1 u2 u3 u4 u5 u6) (evS u2.toNat u3 u4 u5 u6))) := Lib.hid (Xc_8.out.below b)
      have WB_8 : Hid (BlkL wd12 (wd3.heap.size) [.slice cR1 (gLp (evO a0 l0 d0 u1 u2 u3 u4 u5 u6) a0).length cc1, .slice cR2 (gLp (evO a0 l0 d0 u1 u2 u3 u4 u5 u6) l0).length cc2, .slice cR3 (gLp (evO a0 l0 d0 u1 u2 u3 u4 u5 u6) d0).length cc3, .slice cR4 (gN (evO a0 l0 d0 u1 u2 u3 u4 u5 u6) u2.toNat) cc4, .int .i64 (gC (evO a0 l0 d0 u1 u2 u3 u4 u5 u6) u1), .float .f32 (gN (evO a0 l0 d0 u1 u2 u3 u4 u5 u6) u3), .float .f32 (gN (evO a0 l0 d0 u1 u2 u3 u4 u5 u6) u4)]) := Lib.hid (WB_7.out.below b)
      have V0_6 : Hid (BlkL wd12 (wd5.heap.size) [.slice (some ⟨x01, 0, none⟩) a0.length a0.length, .slice (some ⟨x02, 0, none⟩) l0.length l0.length, .slice (some ⟨x03, 0, none⟩) d0.length d0.length]) := Lib.hid (V0_5.out.below b)
      have Xg_5 : Hid (OwnT wd12 wd6.heap.size gR1 gR2 gR3 gR4 gg1 gg2 gg3 gg4 (gLp (evO a0 l0 d0 u1 u2 u3 u4 u5 u6) a0) (gLp (evO a0 l0 d0 u1 u2 u3 u4 u5 u6) l0) (gLp (evO a0 l0 d0 u1 u2 u3 u4 u5 u6) d0) (gLp (evO a0 l0 d0 u1 u2 u3 u4 u5 u6) (evS u2.toNat u3 u4 u5 u6))) := Lib.hid (Xg_4.out.below b)
      have GB_4 : Hid (BlkL wd12 (wd7.heap.size) [.slice gR1 (gLp (evO a0 l0 d0 u1 u2 u3 u4 u5 u6) a0).length gc1, .slice gR2 (gLp (evO a0 l0 d0 u1 u2 u3 u4 u5 u6) l0).length gc2, .slice gR3 (gLp (evO a0 l0 d0 u1 u2 u3 u4 u5 u6) d0).length gc3, .slice gR4 (gN (evO a0 l0 d0 u1 u2 u3 u4 u5 u6) u2.toNat) gc4, .int .i64 (gC (evO a0 l0 d0 u1 u2 u3 u4 u5 u6) u1), .float .f32 (gN (evO a0 l0 d0 u1 u2 u3 u4 u5 u6) u3), .float .f32 (gN (evO a0 l0 d0 u1 u2 u3 u4 u5 u6) u4)]) := Lib.hid (GB_3.out.below b)
      clear K0x0 K0x1 K0x2 WBx0 WBx1 WBx2 WBx3 WBx4 WBx5 WBx6 V0x0 V0x1 V0x2 GBx0 GBx1 GBx2 GBx3 GBx4 GBx5 GBx6
      clear K0_11 Xc_8 WB_7 V0_5 Xg_4 GB_3
      clear b
      obtain ⟨K0x0, K0x1, K0x2⟩ := K0_12.out.three
      obtain ⟨WBx0, WBx1, WBx2, WBx3, WBx4, WBx5, WBx6⟩ := WB_8.out.sevenT
      obtain ⟨V0x0, V0x1, V0x2⟩ := V0_6.out.three
      obtain ⟨GBx0, GBx1, GBx2, GBx3, GBx4, GBx5, GBx6⟩ := GB_4.out.sevenT
      go_wp2_with fail
      refine (l_markRotor _ _ _ _ _ _ _ _ _ _ _ _ _ _ 1 _ _ _ (gLp (evO a0 l0 d0 u1 u2 u3 u4 u5 u6) a0) (gLp (evO a0 l0 d0 u1 u2 u3 u4 u5 u6) l0) (gLp (evO a0 l0 d0 u1 u2 u3 u4 u5 u6) d0) (gLp (evO a0 l0 d0 u1 u2 u3 u4 u5 u6) (evS u2.toNat u3 u4 u5 u6)) _ (Xg_5.out) HF.out (by omega) _ rfl).mono ?_
      rintro e wd13 ⟨rfl, om0, t⟩
      have om : OwnT wd13 wd6.heap.size gR1 gR2 gR3 gR4 gg1 gg2 gg3 gg4 (marks 1 (gLp (evO a0 l0 d0 u1 u2 u3 u4 u5 u6) a0).length) (marks (1 + (gLp (evO a0 l0 d0 u1 u2 u3 u4 u5 u6) a0).length) (gLp (evO a0 l0 d0 u1 u2 u3 u4 u5 u6) l0).length) (marks (1 + (gLp (evO a0 l0 d0 u1 u2 u3 u4 u5 u6) a0).length + (gLp (evO a0 l0 d0 u1 u2 u3 u4 u5 u6) l0).length) (gLp (evO a0 l0 d0 u1 u2 u3 u4 u5 u6) d0).length) (marks (1 + (gLp (evO a0 l0 d0 u1 u2 u3 u4 u5 u6) a0).length + (gLp (evO a0 l0 d0 u1 u2 u3 u4 u5 u6) l0).length + (gLp (evO a0 l0 d0 u1 u2 u3 u4 u5 u6) d0).length) ((gN (evO a0 l0 d0 u1 u2 u3 u4 u5 u6) u2.toNat) * 3)) := by rw [HF.out.1] at om0; exact om0
      clear om0
      have B13 : Hid (Below w.heap.size w wd13) := Lib.hid (t.2.2.2 w B12.out (by intro b hh; have h1 := Xgbd.out.bd hh; have := Z0.out; have := Z1.out; have := Z2.out; have := Z3.out; have := Z4.out; have := Y4.out; have := Z5.out; have := Z6.out; have := Y6.out; have := Z7.out; have := Z8.out; have := Y8.out; have := Z9.out; have := Z10.out; have := Z11.out; have := Z12.out; omega))
      have Z13 : Hid (wd12.heap.size ≤ wd13.heap.size) := Lib.hid t.1
      have K0_13 : Hid (BlkL wd13 (w.heap.size) [.slice A0 a0.length ca0, .slice L0 l0.length cl0, .slice D0 d0.length cd0]) := Lib.hid (K0_12.out.turnS t (by intro hh; have h1 := Xgbd.out.bd hh; have := Z0.out; have := Z1.out; have := Z2.out; have := Z3.out; have := Z4.out; have := Y4.out; have := Z5.out; have := Z6.out; have := Y6.out; have := Z7.out; have := Z8.out; have := Y8.out; have := Z9.out; have := Z10.out; have := Z11.out; have := Z12.out; omega))
      have Xc_10 : Hid (OwnT wd13 wd2.heap.size cR1 cR2 cR3 cR4 cg1 cg2 cg3 cg4 (gLp (evO a0 l0 d0 u1 u2 u3 u4 u5 u6) a0) (gLp (evO a0 l0 d0 u1 u2 u3 u4 u5 u6) l0) (gLp (evO a0 l0 d0 u1 u2 u3 u4 u5 u6) d0) (gLp (evO a0 l0 d0 u1 u2 u3 u4 u5 u6) (evS u2.toNat u3 u4 u5 u6))) := Lib.hid (Xc_9.out.turnS t (by intro c hc hh; have h1 := Xgbd.out.bd hh; have h2 := Xcbd.out.bd hc; have := Z0.out; have := Z1.out; have := Z2.out; have := Z3.out; have := Z4.out; have := Y4.out; have := Z5.out; have := Z6.out; have := Y6.out; have := Z7.out; have := Z8.out; have := Y8.out; have := Z9.out; have := Z10.out; have := Z11.out; have := Z12.out; omega))
      have WB_9 : Hid (BlkL wd13 (wd3.heap.size) [.slice cR1 (gLp (evO a0 l0 d0 u1 u2 u3 u4 u5 u6) a0).length cc1, .slice cR2 (gLp (evO a0 l0 d0 u1 u2 u3 u4 u5 u6) l0).length cc2, .slice cR3 (gLp (evO a0 l0 d0 u1 u2 u3 u4 u5 u6) d0).length cc3, .slice cR4 (gN (evO a0 l0 d0 u1 u2 u3 u4 u5 u6) u2.toNat) cc4, .int .i64 (gC (evO a0 l0 d0 u1 u2 u3 u4 u5 u6) u1), .float .f32 (gN (evO a0 l0 d0 u1 u2 u3 u4 u5 u6) u3), .float .f32 (gN (evO a0 l0 d0 u1 u2 u3 u4 u5 u6) u4)]) := Lib.hid (WB_8.out.turnS t (by intro hh; have h1 := Xgbd.out.bd hh; have := Z0.out; have := Z1.out; have := Z2.out; have := Z3.out; have := Z4.out; have := Y4.out; have := Z5.out; have := Z6.out; have := Y6.out; have := Z7.out; have := Z8.out; have := Y8.out; have := Z9.out; have := Z10.out; have := Z11.out; have := Z12.out; omega))
      have V0_7 : Hid (BlkL wd13 (wd5.heap.size) [.slice (some ⟨x01, 0, none⟩) a0.length a0.length, .slice (some ⟨x02, 0, none⟩) l0.length l0.length, .slice (some ⟨x03, 0, none⟩) d0.length d0.length]) := Lib.hid (V0_6.out.turnS t (by intro hh; have h1 := Xgbd.out.bd hh; have := Z0.out; have := Z1.out; have := Z2.out; have := Z3.out; have := Z4.out; have := Y4.out; have := Z5.out; have := Z6.out; have := Y6.out; have := Z7.out; have := Z8.out; have := Y8.out; have := Z9.out; have := Z10.out; have := Z11.out; have := Z12.out; omega))
      have GB_5 : Hid (BlkL wd13 (wd7.heap.size) [.slice gR1 (gLp (evO a0 l0 d0 u1 u2 u3 u4 u5 u6) a0).length gc1, .slice gR2 (gLp (evO a0 l0 d0 u1 u2 u3 u4 u5 u6) l0).length gc2, .slice gR3 (gLp (evO a0 l0 d0 u1 u2 u3 u4 u5 u6) d0).length gc3, .slice gR4 (gN (evO a0 l0 d0 u1 u2 u3 u4 u5 u6) u2.toNat) gc4, .int .i64 (gC (evO a0 l0 d0 u1 u2 u3 u4 u5 u6) u1), .float .f32 (gN (evO a0 l0 d0 u1 u2 u3 u4 u5 u6) u3), .float .f32 (gN (evO a0 l0 d0 u1 u2 u3 u4 u5 u6) u4)]) := Lib.hid (GB_4.out.turnS t (by intro hh; have h1 := Xgbd.out.bd hh; have := Z0.out; have := Z1.out; have := Z2.out; have := Z3.out; have := Z4.out; have := Y4.out; have := Z5.out; have := Z6.out; have := Y6.out; have := Z7.out; have := Z8.out; have := Y8.out; have := Z9.out; have := Z10.out; have := Z11.out; have := Z12.out; omega))
      have XM : Hid (OwnT wd13 wd6.heap.size gR1 gR2 gR3 gR4 gg1 gg2 gg3 gg4 (marks 1 (gLp (evO a0 l0 d0 u1 u2 u3 u4 u5 u6) a0).length) (marks (1 + (gLp (evO a0 l0 d0 u1 u2 u3 u4 u5 u6) a0).length) (gLp (evO a0 l0 d0 u1 u2 u3 u4 u5 u6) l0).length) (marks (1 + (gLp (evO a0 l0 d0 u1 u2 u3 u4 u5 u6) a0).length + (gLp (evO a0 l0 d0 u1 u2 u3 u4 u5 u6) l0).length) (gLp (evO a0 l0 d0 u1 u2 u3 u4 u5 u6) d0).length) (marks (1 + (gLp (evO a0 l0 d0 u1 u2 u3 u4 u5 u6) a0).length + (gLp (evO a0 l0 d0 u1 u2 u3 u4 u5 u6) l0).length + (gLp (evO a0 l0 d0 u1 u2 u3 u4 u5 u6) d0).length) ((gN (evO a0 l0 d0 u1 u2 u3 u4 u5 u6) u2.toNat) * 3))) := Lib.hid (om)
      clear K0x0 K0x1 K0x2 WBx0 WBx1 WBx2 WBx3 WBx4 WBx5 WBx6 V0x0 V0x1 V0x2 GBx0 GBx1 GBx2 GBx3 GBx4 GBx5 GBx6
      clear K0_12 Xc_9 WB_8 V0_6 GB_4
      clear t om
      have hm : (0 : Int) ≤ ((1 : Nat) : Int) + ((gLp (evO a0 l0 d0 u1 u2 u3 u4 u5 u6) a0).length : Int) + ((gLp (evO a0 l0 d0 u1 u2 u3 u4 u5 u6) l0).length : Int) + ((gLp (evO a0 l0 d0 u1 u2 u3 u4 u5 u6) d0).length : Int) + 3 * ((gN (evO a0 l0 d0 u1 u2 u3 u4 u5 u6) u2.toNat) : Int) := by omega
      obtain ⟨K0x0, K0x1, K0x2⟩ := K0_13.out.three
      obtain ⟨WBx0, WBx1, WBx2, WBx3, WBx4, WBx5, WBx6⟩ := WB_9.out.sevenT
      obtain ⟨V0x0, V0x1, V0x2⟩ := V0_7.out.three
      obtain ⟨GBx0, GBx1, GBx2, GBx3, GBx4, GBx5, GBx6⟩ := GB_5.out.sevenT
      go_wp2_with fail
      refine (l_heldRotor _ _ _ _ _ _ _ _ _ _ _ _ _ _ 1 _ _ _ _ _ _ _ (XM.out) HF.out.2 (by omega) _ rfl).mono ?_
      rintro e wd14 ⟨rfl, b⟩
      have B14 : Hid (Below w.heap.size w wd14) := Lib.hid (below_of B13.out B13.out.size b)
      have Z14 : Hid (wd13.heap.size ≤ wd14.heap.size) := Lib.hid b.size
      have K0_14 : Hid (BlkL wd14 (w.heap.size) [.slice A0 a0.length ca0, .slice L0 l0.length cl0, .slice D0 d0.length cd0]) := Lib.hid (K0_13.out.below b)
      have Xc_11 : Hid (OwnT wd14 wd2.heap.size cR1 cR2 cR3 cR4 cg1 cg2 cg3 cg4 (gLp (evO a0 l0 d0 u1 u2 u3 u4 u5 u6) a0) (gLp (evO a0 l0 d0 u1 u2 u3 u4 u5 u6) l0) (gLp (evO a0 l0 d0 u1 u2 u3 u4 u5 u6) d0) (gLp (evO a0 l0 d0 u1 u2 u3 u4 u5 u6) (evS u2.toNat u3 u4 u5 u6))) := Lib.hid (Xc_10.out.below b)
      have WB_10 : Hid (BlkL wd14 (wd3.heap.size) [.slice cR1 (gLp (evO a0 l0 d0 u1 u2 u3 u4 u5 u6) a0).length cc1, .slice cR2 (gLp (evO a0 l0 d0 u1 u2 u3 u4 u5 u6) l0).length cc2, .slice cR3 (gLp (evO a0 l0 d0 u1 u2 u3 u4 u5 u6) d0).length cc3, .slice cR4 (gN (evO a0 l0 d0 u1 u2 u3 u4 u5 u6) u2.toNat) cc4, .int .i64 (gC (evO a0 l0 d0 u1 u2 u3 u4 u5 u6) u1), .float .f32 (gN (evO a0 l0 d0 u1 u2 u3 u4 u5 u6) u3), .float .f32 (gN (evO a0 l0 d0 u1 u2 u3 u4 u5 u6) u4)]) := Lib.hid (WB_9.out.below b)
      have V0_8 : Hid (BlkL wd14 (wd5.heap.size) [.slice (some ⟨x01, 0, none⟩) a0.length a0.length, .slice (some ⟨x02, 0, none⟩) l0.length l0.length, .slice (some ⟨x03, 0, none⟩) d0.length d0.length]) := Lib.hid (V0_7.out.below b)
      have GB_6 : Hid (BlkL wd14 (wd7.heap.size) [.slice gR1 (gLp (evO a0 l0 d0 u1 u2 u3 u4 u5 u6) a0).length gc1, .slice gR2 (gLp (evO a0 l0 d0 u1 u2 u3 u4 u5 u6) l0).length gc2, .slice gR3 (gLp (evO a0 l0 d0 u1 u2 u3 u4 u5 u6) d0).length gc3, .slice gR4 (gN (evO a0 l0 d0 u1 u2 u3 u4 u5 u6) u2.toNat) gc4, .int .i64 (gC (evO a0 l0 d0 u1 u2 u3 u4 u5 u6) u1), .float .f32 (gN (evO a0 l0 d0 u1 u2 u3 u4 u5 u6) u3), .float .f32 (gN (evO a0 l0 d0 u1 u2 u3 u4 u5 u6) u4)]) := Lib.hid (GB_5.out.below b)
      have XM_1 : Hid (OwnT wd14 wd6.heap.size gR1 gR2 gR3 gR4 gg1 gg2 gg3 gg4 (marks 1 (gLp (evO a0 l0 d0 u1 u2 u3 u4 u5 u6) a0).length) (marks (1 + (gLp (evO a0 l0 d0 u1 u2 u3 u4 u5 u6) a0).length) (gLp (evO a0 l0 d0 u1 u2 u3 u4 u5 u6) l0).length) (marks (1 + (gLp (evO a0 l0 d0 u1 u2 u3 u4 u5 u6) a0).length + (gLp (evO a0 l0 d0 u1 u2 u3 u4 u5 u6) l0).length) (gLp (evO a0 l0 d0 u1 u2 u3 u4 u5 u6) d0).length) (marks (1 + (gLp (evO a0 l0 d0 u1 u2 u3 u4 u5 u6) a0).length + (gLp (evO a0 l0 d0 u1 u2 u3 u4 u5 u6) l0).length + (gLp (evO a0 l0 d0 u1 u2 u3 u4 u5 u6) d0).length) ((gN (evO a0 l0 d0 u1 u2 u3 u4 u5 u6) u2.toNat) * 3))) := Lib.hid (XM.out.below b)
      clear K0x0 K0x1 K0x2 WBx0 WBx1 WBx2 WBx3 WBx4 WBx5 WBx6 V0x0 V0x1 V0x2 GBx0 GBx1 GBx2 GBx3 GBx4 GBx5 GBx6
      clear K0_13 Xc_10 WB_9 V0_7 GB_5 XM
      clear b
      obtain ⟨K0x0, K0x1, K0x2⟩ := K0_14.out.three
      obtain ⟨WBx0, WBx1, WBx2, WBx3, WBx4, WBx5, WBx6⟩ := WB_10.out.sevenT
      obtain ⟨V0x0, V0x1, V0x2⟩ := V0_8.out.three
      obtain ⟨GBx0, GBx1, GBx2, GBx3, GBx4, GBx5, GBx6⟩ := GB_6.out.sevenT
      go_wp2_with fail
      refine (l_toProfile A0 L0 D0 ca0 cl0 cd0 a0 l0 d0 _ (HP0.out.below B14.out) HN0.out).mono ?_
      rintro e wd15 ⟨z01, z02, z03, rfl, ho, b⟩
      have B15 : Hid (Below w.heap.size w wd15) := Lib.hid (below_of B14.out B14.out.size b)
      have Z15 : Hid (wd14.heap.size ≤ wd15.heap.size) := Lib.hid b.size
      have K0_15 : Hid (BlkL wd15 (w.heap.size) [.slice A0 a0.length ca0, .slice L0 l0.length cl0, .slice D0 d0.length cd0]) := Lib.hid (K0_14.out.below b)
      have Xc_12 : Hid (OwnT wd15 wd2.heap.size cR1 cR2 cR3 cR4 cg1 cg2 cg3 cg4 (gLp (evO a0 l0 d0 u1 u2 u3 u4 u5 u6) a0) (gLp (evO a0 l0 d0 u1 u2 u3 u4 u5 u6) l0) (gLp (evO a0 l0 d0 u1 u2 u3 u4 u5 u6) d0) (gLp (evO a0 l0 d0 u1 u2 u3 u4 u5 u6) (evS u2.toNat u3 u4 u5 u6))) := Lib.hid (Xc_11.out.below b)
      have WB_11 : Hid (BlkL wd15 (wd3.heap.size) [.slice cR1 (gLp (evO a0 l0 d0 u1 u2 u3 u4 u5 u6) a0).length cc1, .slice cR2 (gLp (evO a0 l0 d0 u1 u2 u3 u4 u5 u6) l0).length cc2, .slice cR3 (gLp (evO a0 l0 d0 u1 u2 u3 u4 u5 u6) d0).length cc3, .slice cR4 (gN (evO a0 l0 d0 u1 u2 u3 u4 u5 u6) u2.toNat) cc4, .int .i64 (gC (evO a0 l0 d0 u1 u2 u3 u4 u5 u6) u1), .float .f32 (gN (evO a0 l0 d0 u1 u2 u3 u4 u5 u6) u3), .float .f32 (gN (evO a0 l0 d0 u1 u2 u3 u4 u5 u6) u4)]) := Lib.hid (WB_10.out.below b)
      have V0_9 : Hid (BlkL wd15 (wd5.heap.size) [.slice (some ⟨x01, 0, none⟩) a0.length a0.length, .slice (some ⟨x02, 0, none⟩) l0.length l0.length, .slice (some ⟨x03, 0, none⟩) d0.length d0.length]) := Lib.hid (V0_8.out.below b)
      have GB_7 : Hid (BlkL wd15 (wd7.heap.size) [.slice gR1 (gLp (evO a0 l0 d0 u1 u2 u3 u4 u5 u6) a0).length gc1, .slice gR2 (gLp (evO a0 l0 d0 u1 u2 u3 u4 u5 u6) l0).length gc2, .slice gR3 (gLp (evO a0 l0 d0 u1 u2 u3 u4 u5 u6) d0).length gc3, .slice gR4 (gN (evO a0 l0 d0 u1 u2 u3 u4 u5 u6) u2.toNat) gc4, .int .i64 (gC (evO a0 l0 d0 u1 u2 u3 u4 u5 u6) u1), .float .f32 (gN (evO a0 l0 d0 u1 u2 u3 u4 u5 u6) u3), .float .f32 (gN (evO a0 l0 d0 u1 u2 u3 u4 u5 u6) u4)]) := Lib.hid (GB_6.out.below b)
      have XM_2 : Hid (OwnT wd15 wd6.heap.size gR1 gR2 gR3 gR4 gg1 gg2 gg3 gg4 (marks 1 (gLp (evO a0 l0 d0 u1 u2 u3 u4 u5 u6) a0).length) (marks (1 + (gLp (evO a0 l0 d0 u1 u2 u3 u4 u5 u6) a0).length) (gLp (evO a0 l0 d0 u1 u2 u3 u4 u5 u6) l0).length) (marks (1 + (gLp (evO a0 l0 d0 u1 u2 u3 u4 u5 u6) a0).length + (gLp (evO a0 l0 d0 u1 u2 u3 u4 u5 u6) l0).length) (gLp (evO a0 l0 d0 u1 u2 u3 u4 u5 u6) d0).length) (marks (1 + (gLp (evO a0 l0 d0 u1 u2 u3 u4 u5 u6) a0).length + (gLp (evO a0 l0 d0 u1 u2 u3 u4 u5 u6) l0).length + (gLp (evO a0 l0 d0 u1 u2 u3 u4 u5 u6) d0).length) ((gN (evO a0 l0 d0 u1 u2 u3 u4 u5 u6) u2.toNat) * 3))) := Lib.hid (XM_1.out.below b)
      clear K0x0 K0x1 K0x2 WBx0 WBx1 WBx2 WBx3 WBx4 WBx5 WBx6 V0x0 V0x1 V0x2 GBx0 GBx1 GBx2 GBx3 GBx4 GBx5 GBx6
      clear K0_14 Xc_11 WB_10 V0_8 GB_6 XM_1
      have Xz0 : Hid (OwnQ wd15 wd14.heap.size (some ⟨z01, 0, none⟩) (some ⟨z02, 0, none⟩) (some ⟨z03, 0, none⟩) z01 z02 z03 a0 l0 d0) := Lib.hid (OwnP.q ho)
      have Xz0bd := Xz0
      clear ho b
      obtain ⟨K0x0, K0x1, K0x2⟩ := K0_15.out.three
      obtain ⟨WBx0, WBx1, WBx2, WBx3, WBx4, WBx5, WBx6⟩ := WB_11.out.sevenT
      obtain ⟨V0x0, V0x1, V0x2⟩ := V0_9.out.three
      obtain ⟨GBx0, GBx1, GBx2, GBx3, GBx4, GBx5, GBx6⟩ := GB_7.out.sevenT
      go_wp2_with fail
      refine (i_EvenRotor _ _ _ _ _ _ a0 l0 d0 u1 u2 u3 u4 u5 u6 _ Xz0.out.pf HN0.out).mono ?_
      rintro e wd16 ⟨hR1, hR2, hR3, hR4, hc1, hc2, hc3, hc4, hg1, hg2, hg3, hg4, rfl, ho, b⟩
      have B16 : Hid (Below w.heap.size w wd16) := Lib.hid (below_of B15.out B15.out.size b)
      have Z16 : Hid (wd15.heap.size ≤ wd16.heap.size) := Lib.hid b.size
      have K0_16 : Hid (BlkL wd16 (w.heap.size) [.slice A0 a0.length ca0, .slice L0 l0.length cl0, .slice D0 d0.length cd0]) := Lib.hid (K0_15.out.below b)
      have Xc_13 : Hid (OwnT wd16 wd2.heap.size cR1 cR2 cR3 cR4 cg1 cg2 cg3 cg4 (gLp (evO a0 l0 d0 u1 u2 u3 u4 u5 u6) a0) (gLp (evO a0 l0 d0 u1 u2 u3 u4 u5 u6) l0) (gLp (evO a0 l0 d0 u1 u2 u3 u4 u5 u6) d0) (gLp (evO a0 l0 d0 u1 u2 u3 u4 u5 u6) (evS u2.toNat u3 u4 u5 u6))) := Lib.hid (Xc_12.out.below b)
      have WB_12 : Hid (BlkL wd16 (wd3.heap.size) [.slice cR1 (gLp (evO a0 l0 d0 u1 u2 u3 u4 u5 u6) a0).length cc1, .slice cR2 (gLp (evO a0 l0 d0 u1 u2 u3 u4 u5 u6) l0).length cc2, .slice cR3 (gLp (evO a0 l0 d0 u1 u2 u3 u4 u5 u6) d0).length cc3, .slice cR4 (gN (evO a0 l0 d0 u1 u2 u3 u4 u5 u6) u2.toNat) cc4, .int .i64 (gC (evO a0 l0 d0 u1 u2 u3 u4 u5 u6) u1), .float .f32 (gN (evO a0 l0 d0 u1 u2 u3 u4 u5 u6) u3), .float .f32 (gN (evO a0 l0 d0 u1 u2 u3 u4 u5 u6) u4)]) := Lib.hid (WB_11.out.below b)
      have V0_10 : Hid (BlkL wd16 (wd5.heap.size) [.slice (some ⟨x01, 0, none⟩) a0.length a0.length, .slice (some ⟨x02, 0, none⟩) l0.length l0.length, .slice (some ⟨x03, 0, none⟩) d0.length d0.length]) := Lib.hid (V0_9.out.below b)
      have GB_8 : Hid (BlkL wd16 (wd7.heap.size) [.slice gR1 (gLp (evO a0 l0 d0 u1 u2 u3 u4 u5 u6) a0).length gc1, .slice gR2 (gLp (evO a0 l0 d0 u1 u2 u3 u4 u5 u6) l0).length gc2, .slice gR3 (gLp (evO a0 l0 d0 u1 u2 u3 u4 u5 u6) d0).length gc3, .slice gR4 (gN (evO a0 l0 d0 u1 u2 u3 u4 u5 u6) u2.toNat) gc4, .int .i64 (gC (evO a0 l0 d0 u1 u2 u3 u4 u5 u6) u1), .float .f32 (gN (evO a0 l0 d0 u1 u2 u3 u4 u5 u6) u3), .float .f32 (gN (evO a0 l0 d0 u1 u2 u3 u4 u5 u6) u4)]) := Lib.hid (GB_7.out.below b)
      have XM_3 : Hid (OwnT wd16 wd6.heap.size gR1 gR2 gR3 gR4 gg1 gg2 gg3 gg4 (marks 1 (gLp (evO a0 l0 d0 u1 u2 u3 u4 u5 u6) a0).length) (marks (1 + (gLp (evO a0 l0 d0 u1 u2 u3 u4 u5 u6) a0).length) (gLp (evO a0 l0 d0 u1 u2 u3 u4 u5 u6) l0).length) (marks (1 + (gLp (evO a0 l0 d0 u1 u2 u3 u4 u5 u6) a0).length + (gLp (evO a0 l0 d0 u1 u2 u3 u4 u5 u6) l0).length) (gLp (evO a0 l0 d0 u1 u2 u3 u4 u5 u6) d0).length) (marks (1 + (gLp (evO a0 l0 d0 u1 u2 u3 u4 u5 u6) a0).length + (gLp (evO a0 l0 d0 u1 u2 u3 u4 u5 u6) l0).length + (gLp (evO a0 l0 d0 u1 u2 u3 u4 u5 u6) d0).length) ((gN (evO a0 l0 d0 u1 u2 u3 u4 u5 u6) u2.toNat) * 3))) := Lib.hid (XM_2.out.below b)
      have Xz0_1 : Hid (OwnQ wd16 wd14.heap.size (some ⟨z01, 0, none⟩) (some ⟨z02, 0, none⟩) (some ⟨z03, 0, none⟩) z01 z02 z03 a0 l0 d0) := Lib.hid (Xz0.out.below b)
      clear K0x0 K0x1 K0x2 WBx0 WBx1 WBx2 WBx3 WBx4 WBx5 WBx6 V0x0 V0x1 V0x2 GBx0 GBx1 GBx2 GBx3 GBx4 GBx5 GBx6
      clear K0_15 Xc_12 WB_11 V0_9 GB_7 XM_2 Xz0
      have Xh : Hid (OwnT wd16 wd15.heap.size hR1 hR2 hR3 hR4 hg1 hg2 hg3 hg4 (gLp (evO a0 l0 d0 u1 u2 u3 u4 u5 u6) a0) (gLp (evO a0 l0 d0 u1 u2 u3 u4 u5 u6) l0) (gLp (evO a0 l0 d0 u1 u2 u3 u4 u5 u6) d0) (gLp (evO a0 l0 d0 u1 u2 u3 u4 u5 u6) (evS u2.toNat u3 u4 u5 u6))) := Lib.hid (ho)
      have Xhbd := Xh
      clear ho
      clear b
      obtain ⟨wd17, hw17⟩ : ∃ x, x = wd16.alloc (.cells #[.slice hR1 (gLp (evO a0 l0 d0 u1 u2 u3 u4 u5 u6) a0).length hc1, .slice hR2 (gLp (evO a0 l0 d0 u1 u2 u3 u4 u5 u6) l0).length hc2, .slice hR3 (gLp (evO a0 l0 d0 u1 u2 u3 u4 u5 u6) d0).length hc3, .slice hR4 (gN (evO a0 l0 d0 u1 u2 u3 u4 u5 u6) u2.toNat) hc4, .int .i64 (gC (evO a0 l0 d0 u1 u2 u3 u4 u5 u6) u1), .float .f32 (gN (evO a0 l0 d0 u1 u2 u3 u4 u5 u6) u3), .float .f32 (gN (evO a0 l0 d0 u1 u2 u3 u4 u5 u6) u4)] 30) := ⟨_, rfl⟩
      have b : Below wd16.heap.size wd16 wd17 := by rw [hw17]; exact (Below.refl _ _).alloc (Nat.le_refl _) _
      have Y17 : Hid (wd16.heap.size + 1 ≤ wd17.heap.size) := Lib.hid (by rw [hw17]; simp)
      have B17 : Hid (Below w.heap.size w wd17) := Lib.hid (below_of B16.out B16.out.size b)
      have Z17 : Hid (wd16.heap.size ≤ wd17.heap.size) := Lib.hid b.size
      have K0_17 : Hid (BlkL wd17 (w.heap.size) [.slice A0 a0.length ca0, .slice L0 l0.length cl0, .slice D0 d0.length cd0]) := Lib.hid (K0_16.out.below b)
      have Xc_14 : Hid (OwnT wd17 wd2.heap.size cR1 cR2 cR3 cR4 cg1 cg2 cg3 cg4 (gLp (evO a0 l0 d0 u1 u2 u3 u4 u5 u6) a0) (gLp (evO a0 l0 d0 u1 u2 u3 u4 u5 u6) l0) (gLp (evO a0 l0 d0 u1 u2 u3 u4 u5 u6) d0) (gLp (evO a0 l0 d0 u1 u2 u3 u4 u5 u6) (evS u2.toNat u3 u4 u5 u6))) := Lib.hid (Xc_13.out.below b)
      have WB_13 : Hid (BlkL wd17 (wd3.heap.size) [.slice cR1 (gLp (evO a0 l0 d0 u1 u2 u3 u4 u5 u6) a0).length cc1, .slice cR2 (gLp (evO a0 l0 d0 u1 u2 u3 u4 u5 u6) l0).length cc2, .slice cR3 (gLp (evO a0 l0 d0 u1 u2 u3 u4 u5 u6) d0).length cc3, .slice cR4 (gN (evO a0 l0 d0 u1 u2 u3 u4 u5 u6) u2.toNat) cc4, .int .i64 (gC (evO a0 l0 d0 u1 u2 u3 u4 u5 u6) u1), .float .f32 (gN (evO a0 l0 d0 u1 u2 u3 u4 u5 u6) u3), .float .f32 (gN (evO a0 l0 d0 u1 u2 u3 u4 u5 u6) u4)]) := Lib.hid (WB_12.out.below b)
      have V0_11 : Hid (BlkL wd17 (wd5.heap.size) [.slice (some ⟨x01, 0, none⟩) a0.length a0.length, .slice (some ⟨x02, 0, none⟩) l0.length l0.length, .slice (some ⟨x03, 0, none⟩) d0.length d0.length]) := Lib.hid (V0_10.out.below b)
      have GB_9 : Hid (BlkL wd17 (wd7.heap.size) [.slice gR1 (gLp (evO a0 l0 d0 u1 u2 u3 u4 u5 u6) a0).length gc1, .slice gR2 (gLp (evO a0 l0 d0 u1 u2 u3 u4 u5 u6) l0).length gc2, .slice gR3 (gLp (evO a0 l0 d0 u1 u2 u3 u4 u5 u6) d0).length gc3, .slice gR4 (gN (evO a0 l0 d0 u1 u2 u3 u4 u5 u6) u2.toNat) gc4, .int .i64 (gC (evO a0 l0 d0 u1 u2 u3 u4 u5 u6) u1), .float .f32 (gN (evO a0 l0 d0 u1 u2 u3 u4 u5 u6) u3), .float .f32 (gN (evO a0 l0 d0 u1 u2 u3 u4 u5 u6) u4)]) := Lib.hid (GB_8.out.below b)
      have XM_4 : Hid (OwnT wd17 wd6.heap.size gR1 gR2 gR3 gR4 gg1 gg2 gg3 gg4 (marks 1 (gLp (evO a0 l0 d0 u1 u2 u3 u4 u5 u6) a0).length) (marks (1 + (gLp (evO a0 l0 d0 u1 u2 u3 u4 u5 u6) a0).length) (gLp (evO a0 l0 d0 u1 u2 u3 u4 u5 u6) l0).length) (marks (1 + (gLp (evO a0 l0 d0 u1 u2 u3 u4 u5 u6) a0).length + (gLp (evO a0 l0 d0 u1 u2 u3 u4 u5 u6) l0).length) (gLp (evO a0 l0 d0 u1 u2 u3 u4 u5 u6) d0).length) (marks (1 + (gLp (evO a0 l0 d0 u1 u2 u3 u4 u5 u6) a0).length + (gLp (evO a0 l0 d0 u1 u2 u3 u4 u5 u6) l0).length + (gLp (evO a0 l0 d0 u1 u2 u3 u4 u5 u6) d0).length) ((gN (evO a0 l0 d0 u1 u2 u3 u4 u5 u6) u2.toNat) * 3))) := Lib.hid (XM_3.out.below b)
      have Xh_1 : Hid (OwnT wd17 wd15.heap.size hR1 hR2 hR3 hR4 hg1 hg2 hg3 hg4 (gLp (evO a0 l0 d0 u1 u2 u3 u4 u5 u6) a0) (gLp (evO a0 l0 d0 u1 u2 u3 u4 u5 u6) l0) (gLp (evO a0 l0 d0 u1 u2 u3 u4 u5 u6) d0) (gLp (evO a0 l0 d0 u1 u2 u3 u4 u5 u6) (evS u2.toNat u3 u4 u5 u6))) := Lib.hid (Xh.out.below b)
      have HB : Hid (BlkL wd17 (wd16.heap.size) [.slice hR1 (gLp (evO a0 l0 d0 u1 u2 u3 u4 u5 u6) a0).length hc1, .slice hR2 (gLp (evO a0 l0 d0 u1 u2 u3 u4 u5 u6) l0).length hc2, .slice hR3 (gLp (evO a0 l0 d0 u1 u2 u3 u4 u5 u6) d0).length hc3, .slice hR4 (gN (evO a0 l0 d0 u1 u2 u3 u4 u5 u6) u2.toNat) hc4, .int .i64 (gC (evO a0 l0 d0 u1 u2 u3 u4 u5 u6) u1), .float .f32 (gN (evO a0 l0 d0 u1 u2 u3 u4 u5 u6) u3), .float .f32 (gN (evO a0 l0 d0 u1 u2 u3 u4 u5 u6) u4)]) := Lib.hid (by rw [hw17]; exact blkL_at wd16 #[.slice hR1 (gLp (evO a0 l0 d0 u1 u2 u3 u4 u5 u6) a0).length hc1, .slice hR2 (gLp (evO a0 l0 d0 u1 u2 u3 u4 u5 u6) l0).length hc2, .slice hR3 (gLp (evO a0 l0 d0 u1 u2 u3 u4 u5 u6) d0).length hc3, .slice hR4 (gN (evO a0 l0 d0 u1 u2 u3 u4 u5 u6) u2.toNat) hc4, .int .i64 (gC (evO a0 l0 d0 u1 u2 u3 u4 u5 u6) u1), .float .f32 (gN (evO a0 l0 d0 u1 u2 u3 u4 u5 u6) u3), .float .f32 (gN (evO a0 l0 d0 u1 u2 u3 u4 u5 u6) u4)] 30 rfl)
      clear b
      have K0y0 := fun o => ((K0_16.out.alloc o).2 0 _ rfl).1
      have K0y1 := fun o => ((K0_16.out.alloc o).2 1 _ rfl).1
      have K0y2 := fun o => ((K0_16.out.alloc o).2 2 _ rfl).1
      have WBy0 := fun o => ((WB_12.out.alloc o).2 0 _ rfl).1
      have WBy1 := fun o => ((WB_12.out.alloc o).2 1 _ rfl).1
      have WBy2 := fun o => ((WB_12.out.alloc o).2 2 _ rfl).1
      have WBy3 := fun o => ((WB_12.out.alloc o).2 3 _ rfl).1
      have WBy4 := fun o => ((WB_12.out.alloc o).2 4 _ rfl).1
      have WBy5 := fun o => ((WB_12.out.alloc o).2 5 _ rfl).1
      have WBy6 := fun o => ((WB_12.out.alloc o).2 6 _ rfl).1
      have V0y0 := fun o => ((V0_10.out.alloc o).2 0 _ rfl).1
      have V0y1 := fun o => ((V0_10.out.alloc o).2 1 _ rfl).1
      have V0y2 := fun o => ((V0_10.out.alloc o).2 2 _ rfl).1
      have GBy0 := fun o => ((GB_8.out.alloc o).2 0 _ rfl).1
      have GBy1 := fun o => ((GB_8.out.alloc o).2 1 _ rfl).1
      have GBy2 := fun o => ((GB_8.out.alloc o).2 2 _ rfl).1
      have GBy3 := fun o => ((GB_8.out.alloc o).2 3 _ rfl).1
      have GBy4 := fun o => ((GB_8.out.alloc o).2 4 _ rfl).1
      have GBy5 := fun o => ((GB_8.out.alloc o).2 5 _ rfl).1
      have GBy6 := fun o => ((GB_8.out.alloc o).2 6 _ rfl).1
      go_wp2_with fail
      rw [← hw17]
      clear hw17
      clear K0y0 K0y1 K0y2 WBy0 WBy1 WBy2 WBy3 WBy4 WBy5 WBy6 V0y0 V0y1 V0y2 GBy0 GBy1 GBy2 GBy3 GBy4 GBy5 GBy6
      clear K0_16 Xc_13 WB_12 V0_10 GB_8 XM_3 Xh
      obtain ⟨K0x0, K0x1, K0x2⟩ := K0_17.out.three
      obtain ⟨WBx0, WBx1, WBx2, WBx3, WBx4, WBx5, WBx6⟩ := WB_13.out.sevenT
      obtain ⟨V0x0, V0x1, V0x2⟩ := V0_11.out.three
      obtain ⟨GBx0, GBx1, GBx2, GBx3, GBx4, GBx5, GBx6⟩ := GB_9.out.sevenT
      obtain ⟨HBx0, HBx1, HBx2, HBx3, HBx4, HBx5, HBx6⟩ := HB.out.sevenT
      go_wp2_with fail
      refine (l_eqRotor _ _ _ _ _ _ _ _ _ _ _ _ _ _ _ _ _ _ _ _ (gLp (evO a0 l0 d0 u1 u2 u3 u4 u5 u6) a0) (gLp (evO a0 l0 d0 u1 u2 u3 u4 u5 u6) l0) (gLp (evO a0 l0 d0 u1 u2 u3 u4 u5 u6) d0) (gLp (evO a0 l0 d0 u1 u2 u3 u4 u5 u6) (evS u2.toNat u3 u4 u5 u6)) _ Xh_1.out.rt Xc_14.out.rt HF.out).mono ?_
      rintro e wd18 ⟨rfl, b⟩
      have B18 : Hid (Below w.heap.size w wd18) := Lib.hid (below_of B17.out B17.out.size b)
      have Z18 : Hid (wd17.heap.size ≤ wd18.heap.size) := Lib.hid b.size
      have K0_18 : Hid (BlkL wd18 (w.heap.size) [.slice A0 a0.length ca0, .slice L0 l0.length cl0, .slice D0 d0.length cd0]) := Lib.hid (K0_17.out.below b)
      have Xc_15 : Hid (OwnT wd18 wd2.heap.size cR1 cR2 cR3 cR4 cg1 cg2 cg3 cg4 (gLp (evO a0 l0 d0 u1 u2 u3 u4 u5 u6) a0) (gLp (evO a0 l0 d0 u1 u2 u3 u4 u5 u6) l0) (gLp (evO a0 l0 d0 u1 u2 u3 u4 u5 u6) d0) (gLp (evO a0 l0 d0 u1 u2 u3 u4 u5 u6) (evS u2.toNat u3 u4 u5 u6))) := Lib.hid (Xc_14.out.below b)
      have WB_14 : Hid (BlkL wd18 (wd3.heap.size) [.slice cR1 (gLp (evO a0 l0 d0 u1 u2 u3 u4 u5 u6) a0).length cc1, .slice cR2 (gLp (evO a0 l0 d0 u1 u2 u3 u4 u5 u6) l0).length cc2, .slice cR3 (gLp (evO a0 l0 d0 u1 u2 u3 u4 u5 u6) d0).length cc3, .slice cR4 (gN (evO a0 l0 d0 u1 u2 u3 u4 u5 u6) u2.toNat) cc4, .int .i64 (gC (evO a0 l0 d0 u1 u2 u3 u4 u5 u6) u1), .float .f32 (gN (evO a0 l0 d0 u1 u2 u3 u4 u5 u6) u3), .float .f32 (gN (evO a0 l0 d0 u1 u2 u3 u4 u5 u6) u4)]) := Lib.hid (WB_13.out.below b)
      have V0_12 : Hid (BlkL wd18 (wd5.heap.size) [.slice (some ⟨x01, 0, none⟩) a0.length a0.length, .slice (some ⟨x02, 0, none⟩) l0.length l0.length, .slice (some ⟨x03, 0, none⟩) d0.length d0.length]) := Lib.hid (V0_11.out.below b)
      have GB_10 : Hid (BlkL wd18 (wd7.heap.size) [.slice gR1 (gLp (evO a0 l0 d0 u1 u2 u3 u4 u5 u6) a0).length gc1, .slice gR2 (gLp (evO a0 l0 d0 u1 u2 u3 u4 u5 u6) l0).length gc2, .slice gR3 (gLp (evO a0 l0 d0 u1 u2 u3 u4 u5 u6) d0).length gc3, .slice gR4 (gN (evO a0 l0 d0 u1 u2 u3 u4 u5 u6) u2.toNat) gc4, .int .i64 (gC (evO a0 l0 d0 u1 u2 u3 u4 u5 u6) u1), .float .f32 (gN (evO a0 l0 d0 u1 u2 u3 u4 u5 u6) u3), .float .f32 (gN (evO a0 l0 d0 u1 u2 u3 u4 u5 u6) u4)]) := Lib.hid (GB_9.out.below b)
      have XM_5 : Hid (OwnT wd18 wd6.heap.size gR1 gR2 gR3 gR4 gg1 gg2 gg3 gg4 (marks 1 (gLp (evO a0 l0 d0 u1 u2 u3 u4 u5 u6) a0).length) (marks (1 + (gLp (evO a0 l0 d0 u1 u2 u3 u4 u5 u6) a0).length) (gLp (evO a0 l0 d0 u1 u2 u3 u4 u5 u6) l0).length) (marks (1 + (gLp (evO a0 l0 d0 u1 u2 u3 u4 u5 u6) a0).length + (gLp (evO a0 l0 d0 u1 u2 u3 u4 u5 u6) l0).length) (gLp (evO a0 l0 d0 u1 u2 u3 u4 u5 u6) d0).length) (marks (1 + (gLp (evO a0 l0 d0 u1 u2 u3 u4 u5 u6) a0).length + (gLp (evO a0 l0 d0 u1 u2 u3 u4 u5 u6) l0).length + (gLp (evO a0 l0 d0 u1 u2 u3 u4 u5 u6) d0).length) ((gN (evO a0 l0 d0 u1 u2 u3 u4 u5 u6) u2.toNat) * 3))) := Lib.hid (XM_4.out.below b)
      have Xh_2 : Hid (OwnT wd18 wd15.heap.size hR1 hR2 hR3 hR4 hg1 hg2 hg3 hg4 (gLp (evO a0 l0 d0 u1 u2 u3 u4 u5 u6) a0) (gLp (evO a0 l0 d0 u1 u2 u3 u4 u5 u6) l0) (gLp (evO a0 l0 d0 u1 u2 u3 u4 u5 u6) d0) (gLp (evO a0 l0 d0 u1 u2 u3 u4 u5 u6) (evS u2.toNat u3 u4 u5 u6))) := Lib.hid (Xh_1.out.below b)
      have HB_1 : Hid (BlkL wd18 (wd16.heap.size) [.slice hR1 (gLp (evO a0 l0 d0 u1 u2 u3 u4 u5 u6) a0).length hc1, .slice hR2 (gLp (evO a0 l0 d0 u1 u2 u3 u4 u5 u6) l0).length hc2, .slice hR3 (gLp (evO a0 l0 d0 u1 u2 u3 u4 u5 u6) d0).length hc3, .slice hR4 (gN (evO a0 l0 d0 u1 u2 u3 u4 u5 u6) u2.toNat) hc4, .int .i64 (gC (evO a0 l0 d0 u1 u2 u3 u4 u5 u6) u1), .float .f32 (gN (evO a0 l0 d0 u1 u2 u3 u4 u5 u6) u3), .float .f32 (gN (evO a0 l0 d0 u1 u2 u3 u4 u5 u6) u4)]) := Lib.hid (HB.out.below b)
      clear K0x0 K0x1 K0x2 WBx0 WBx1 WBx2 WBx3 WBx4 WBx5 WBx6 V0x0 V0x1 V0x2 GBx0 GBx1 GBx2 GBx3 GBx4 GBx5 GBx6 HBx0 HBx1 HBx2 HBx3 HBx4 HBx5 HBx6
      clear K0_17 Xc_14 WB_13 V0_11 GB_9 XM_4 Xh_1 HB
      clear b
      obtain ⟨K0x0, K0x1, K0x2⟩ := K0_18.out.three
      obtain ⟨WBx0, WBx1, WBx2, WBx3, WBx4, WBx5, WBx6⟩ := WB_14.out.sevenT
      obtain ⟨V0x0, V0x1, V0x2⟩ := V0_12.out.three
      obtain ⟨GBx0, GBx1, GBx2, GBx3, GBx4, GBx5, GBx6⟩ := GB_10.out.sevenT
      obtain ⟨HBx0, HBx1, HBx2, HBx3, HBx4, HBx5, HBx6⟩ := HB_1.out.sevenT
      go_wp2_with fail
      refine (l_heldRotor _ _ _ _ _ _ _ _ _ _ _ _ _ _ 1 _ _ _ _ _ _ _ (XM_5.out) HF.out.2 (by omega) _ rfl).mono ?_
      rintro e wd19 ⟨rfl, b⟩
      have B19 : Hid (Below w.heap.size w wd19) := Lib.hid (below_of B18.out B18.out.size b)
      have Z19 : Hid (wd18.heap.size ≤ wd19.heap.size) := Lib.hid b.size
      have K0_19 : Hid (BlkL wd19 (w.heap.size) [.slice A0 a0.length ca0, .slice L0 l0.length cl0, .slice D0 d0.length cd0]) := Lib.hid (K0_18.out.below b)
      have Xc_16 : Hid (OwnT wd19 wd2.heap.size cR1 cR2 cR3 cR4 cg1 cg2 cg3 cg4 (gLp (evO a0 l0 d0 u1 u2 u3 u4 u5 u6) a0) (gLp (evO a0 l0 d0 u1 u2 u3 u4 u5 u6) l0) (gLp (evO a0 l0 d0 u1 u2 u3 u4 u5 u6) d0) (gLp (evO a0 l0 d0 u1 u2 u3 u4 u5 u6) (evS u2.toNat u3 u4 u5 u6))) := Lib.hid (Xc_15.out.below b)
      have WB_15 : Hid (BlkL wd19 (wd3.heap.size) [.slice cR1 (gLp (evO a0 l0 d0 u1 u2 u3 u4 u5 u6) a0).length cc1, .slice cR2 (gLp (evO a0 l0 d0 u1 u2 u3 u4 u5 u6) l0).length cc2, .slice cR3 (gLp (evO a0 l0 d0 u1 u2 u3 u4 u5 u6) d0).length cc3, .slice cR4 (gN (evO a0 l0 d0 u1 u2 u3 u4 u5 u6) u2.toNat) cc4, .int .i64 (gC (evO a0 l0 d0 u1 u2 u3 u4 u5 u6) u1), .float .f32 (gN (evO a0 l0 d0 u1 u2 u3 u4 u5 u6) u3), .float .f32 (gN (evO a0 l0 d0 u1 u2 u3 u4 u5 u6) u4)]) := Lib.hid (WB_14.out.below b)
      have V0_13 : Hid (BlkL wd19 (wd5.heap.size) [.slice (some ⟨x01, 0, none⟩) a0.length a0.length, .slice (some ⟨x02, 0, none⟩) l0.length l0.length, .slice (some ⟨x03, 0, none⟩) d0.length d0.length]) := Lib.hid (V0_12.out.below b)
      have GB_11 : Hid (BlkL wd19 (wd7.heap.size) [.slice gR1 (gLp (evO a0 l0 d0 u1 u2 u3 u4 u5 u6) a0).length gc1, .slice gR2 (gLp (evO a0 l0 d0 u1 u2 u3 u4 u5 u6) l0).length gc2, .slice gR3 (gLp (evO a0 l0 d0 u1 u2 u3 u4 u5 u6) d0).length gc3, .slice gR4 (gN (evO a0 l0 d0 u1 u2 u3 u4 u5 u6) u2.toNat) gc4, .int .i64 (gC (evO a0 l0 d0 u1 u2 u3 u4 u5 u6) u1), .float .f32 (gN (evO a0 l0 d0 u1 u2 u3 u4 u5 u6) u3), .float .f32 (gN (evO a0 l0 d0 u1 u2 u3 u4 u5 u6) u4)]) := Lib.hid (GB_10.out.below b)
      have XM_6 : Hid (OwnT wd19 wd6.heap.size gR1 gR2 gR3 gR4 gg1 gg2 gg3 gg4 (marks 1 (gLp (evO a0 l0 d0 u1 u2 u3 u4 u5 u6) a0).length) (marks (1 + (gLp (evO a0 l0 d0 u1 u2 u3 u4 u5 u6) a0).length) (gLp (evO a0 l0 d0 u1 u2 u3 u4 u5 u6) l0).length) (marks (1 + (gLp (evO a0 l0 d0 u1 u2 u3 u4 u5 u6) a0).length + (gLp (evO a0 l0 d0 u1 u2 u3 u4 u5 u6) l0).length) (gLp (evO a0 l0 d0 u1 u2 u3 u4 u5 u6) d0).length) (marks (1 + (gLp (evO a0 l0 d0 u1 u2 u3 u4 u5 u6) a0).length + (gLp (evO a0 l0 d0 u1 u2 u3 u4 u5 u6) l0).length + (gLp (evO a0 l0 d0 u1 u2 u3 u4 u5 u6) d0).length) ((gN (evO a0 l0 d0 u1 u2 u3 u4 u5 u6) u2.toNat) * 3))) := Lib.hid (XM_5.out.below b)
      have Xh_3 : Hid (OwnT wd19 wd15.heap.size hR1 hR2 hR3 hR4 hg1 hg2 hg3 hg4 (gLp (evO a0 l0 d0 u1 u2 u3 u4 u5 u6) a0) (gLp (evO a0 l0 d0 u1 u2 u3 u4 u5 u6) l0) (gLp (evO a0 l0 d0 u1 u2 u3 u4 u5 u6) d0) (gLp (evO a0 l0 d0 u1 u2 u3 u4 u5 u6) (evS u2.toNat u3 u4 u5 u6))) := Lib.hid (Xh_2.out.below b)
      have HB_2 : Hid (BlkL wd19 (wd16.heap.size) [.slice hR1 (gLp (evO a0 l0 d0 u1 u2 u3 u4 u5 u6) a0).length hc1, .slice hR2 (gLp (evO a0 l0 d0 u1 u2 u3 u4 u5 u6) l0).length hc2, .slice hR3 (gLp (evO a0 l0 d0 u1 u2 u3 u4 u5 u6) d0).length hc3, .slice hR4 (gN (evO a0 l0 d0 u1 u2 u3 u4 u5 u6) u2.toNat) hc4, .int .i64 (gC (evO a0 l0 d0 u1 u2 u3 u4 u5 u6) u1), .float .f32 (gN (evO a0 l0 d0 u1 u2 u3 u4 u5 u6) u3), .float .f32 (gN (evO a0 l0 d0 u1 u2 u3 u4 u5 u6) u4)]) := Lib.hid (HB_1.out.below b)
      clear K0x0 K0x1 K0x2 WBx0 WBx1 WBx2 WBx3 WBx4 WBx5 WBx6 V0x0 V0x1 V0x2 GBx0 GBx1 GBx2 GBx3 GBx4 GBx5 GBx6 HBx0 HBx1 HBx2 HBx3 HBx4 HBx5 HBx6
      clear K0_18 Xc_15 WB_14 V0_12 GB_10 XM_5 Xh_2 HB_1
      clear b
      obtain ⟨K0x0, K0x1, K0x2⟩ := K0_19.out.three
      obtain ⟨WBx0, WBx1, WBx2, WBx3, WBx4, WBx5, WBx6⟩ := WB_15.out.sevenT
      obtain ⟨V0x0, V0x1, V0x2⟩ := V0_13.out.three
      obtain ⟨GBx0, GBx1, GBx2, GBx3, GBx4, GBx5, GBx6⟩ := GB_11.out.sevenT
      obtain ⟨HBx0, HBx1, HBx2, HBx3, HBx4, HBx5, HBx6⟩ := HB_2.out.sevenT
      go_wp2
      go_ret
      exact ⟨rfl, B19.out⟩
  · skip
    obtain ⟨w0, hw0⟩ : ∃ x, x = (w.alloc (.cells #[.slice A0 a0.length ca0, .slice L0 l0.length cl0, .slice D0 d0.length cd0] 24)) := ⟨_, rfl⟩
    have B0 : Hid (Below w.heap.size w w0) := Lib.hid (by rw [hw0]; exact (Below.refl _ _).alloc (Nat.le_refl _) _)
    have Z0 : Hid (w0.heap.size = w.heap.size + 1) := Lib.hid (by rw [hw0]; simp)
    have K0 : Hid (BlkL w0 (w.heap.size) [.slice A0 a0.length ca0, .slice L0 l0.length cl0, .slice D0 d0.length cd0]) := Lib.hid (by rw [hw0]; exact blkL_at w #[.slice A0 a0.length ca0, .slice L0 l0.length cl0, .slice D0 d0.length cd0] 24 rfl)
    go_enter Try.func3, Try.ntmps3
    go_wp2_with fail
    rw [← hw0]
    clear hw0
    obtain ⟨K0x0, K0x1, K0x2⟩ := K0.out.three
    go_wp2_with fail
    refine (l_szProfile_no A0 L0 D0 _ ca0 _ cl0 _ cd0 _ _ (by omega) (by omega) (by omega) ma0 ml0 md0).mono ?_
    rintro e wd1 ⟨rfl, b⟩
    have B1 : Hid (Below w.heap.size w wd1) := Lib.hid (below_of B0.out B0.out.size b)
    have Z1 : Hid (w0.heap.size ≤ wd1.heap.size) := Lib.hid b.size
    have K0_1 : Hid (BlkL wd1 (w.heap.size) [.slice A0 a0.length ca0, .slice L0 l0.length cl0, .slice D0 d0.length cd0]) := Lib.hid (K0.out.below b)
    clear K0x0 K0x1 K0x2
    clear K0
    clear b
    obtain ⟨K0x0, K0x1, K0x2⟩ := K0_1.out.three
    go_wp2
    go_ret
    exact ⟨rfl, B1.out⟩
end Go.Proofs.Ytiiiigldpbomkaa

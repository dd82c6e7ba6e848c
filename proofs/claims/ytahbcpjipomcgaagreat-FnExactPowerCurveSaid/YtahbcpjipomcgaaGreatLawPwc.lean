/- The law FnExactPowerCurve. No statement is proved here. -/
import Derived.Test.YtahbcpjipomcgaaGreatMgPw
import Derived.Test.YtahbcpjipomcgaaGreatMkS
import Derived.Test.YtahbcpjipomcgaaGreatRotL
namespace Go.Proofs.YtahbcpjipomcgaaGreat
open Go Go.RowKit
set_option maxHeartbeats 16000000 in
set_option maxRecDepth 100000 in
theorem law_FnExactPowerCurve (A0 L0 D0 S0 : Option Addr) (ca0 cl0 cd0 n0 cs0 : Nat) (c0 : Int) (hub0 tip0 : Nat) (a0 l0 d0 s0 : List Nat) (A1 : Option Addr) (cap1 : Nat) (a1 : List Nat) (u2 : Nat) (u3 : Nat) (u4 : Nat) (w : World) (h0 : Rt w A0 L0 D0 S0 a0 l0 d0 s0) (hs0 : s0.length = n0 * 3) (ma0 : a0.length ≤ 9223372036854775807) (ml0 : l0.length ≤ 9223372036854775807) (md0 : d0.length ≤ 9223372036854775807) (ms0 : n0 ≤ 9223372036854775807) (h1 : Fl w A1 a1) (ma1 : a1.length ≤ 9223372036854775807) (_hu2 : u2 < words .f32) (_hu3 : u3 < words .f32) (_hu4 : u4 < words .f32) :
    Calls Tryz.prog 8 #[.agg #[.slice A0 a0.length ca0, .slice L0 l0.length cl0, .slice D0 d0.length cd0, .slice S0 n0 cs0, .int .i64 c0, .float .f32 hub0, .float .f32 tip0], .slice A1 a1.length cap1, .float .f32 u2, .float .f32 u3, .float .f32 u4] w fun e w' => e = .returned (.bool true) ∧ Below w.heap.size w w' := by
  have HP0 := Lib.hid h0
  clear h0
  have HSL0 := Lib.hid hs0
  clear hs0
  have HP1 := Lib.hid h1
  clear h1
  by_cases hn0 : a1.length ≤ 1048576
  · skip
    by_cases hn1 : a0.length + l0.length + d0.length + n0 ≤ 1048576
    · skip
      have HN1 : Hid (a1.length ≤ 1048576) := Lib.hid (by omega)
      have HN0 : Hid (FewR a0 l0 d0 s0 n0) := Lib.hid (by have := HSL0.out; unfold FewR; omega)
      have HF : Hid ((pcL a0 l0 d0 s0 n0 c0 hub0 tip0 u2 u3 u4 a1).length ≤ 1048576) := Lib.hid (pcL_few _ _ _ _ _ _ _ _ _ _ _ _ HN1.out)
      obtain ⟨w0, hw0⟩ : ∃ x, x = (w.alloc (.cells #[.slice A0 a0.length ca0, .slice L0 l0.length cl0, .slice D0 d0.length cd0, .slice S0 n0 cs0, .int .i64 c0, .float .f32 hub0, .float .f32 tip0] 28)) := ⟨_, rfl⟩
      have B0 : Hid (Below w.heap.size w w0) := Lib.hid (by rw [hw0]; exact (Below.refl _ _).alloc (Nat.le_refl _) _)
      have Z0 : Hid (w0.heap.size = w.heap.size + 1) := Lib.hid (by rw [hw0]; simp)
      have K0 : Hid (BlkL w0 (w.heap.size) [.slice A0 a0.length ca0, .slice L0 l0.length cl0, .slice D0 d0.length cd0, .slice S0 n0 cs0, .int .i64 c0, .float .f32 hub0, .float .f32 tip0]) := Lib.hid (by rw [hw0]; exact blkL_at w #[.slice A0 a0.length ca0, .slice L0 l0.length cl0, .slice D0 d0.length cd0, .slice S0 n0 cs0, .int .i64 c0, .float .f32 hub0, .float .f32 tip0] 28 rfl)
      go_enter Tryz.func8, Tryz.ntmps8
      go_wp2_with fail
      rw [← hw0]
      clear hw0
      have hq0 : (0 : Int) ≤ 1048576 - (a0.length : Int) - (l0.length : Int) - (d0.length : Int) - (n0 : Int) := by omega
      obtain ⟨K0x0, K0x1, K0x2, K0x3, K0x4, K0x5, K0x6⟩ := K0.out.sevenT
      go_wp2_with fail
      refine (l_szRotor_yes A0 L0 D0 S0 _ ca0 _ cl0 _ cd0 n0 cs0 c0 hub0 tip0 _ _ (by omega) (by omega)).mono ?_
      rintro e wd1 ⟨rfl, b⟩
      have B1 : Hid (Below w.heap.size w wd1) := Lib.hid (below_of B0.out B0.out.size b)
      have Z1 : Hid (w0.heap.size ≤ wd1.heap.size) := Lib.hid b.size
      have K0_1 : Hid (BlkL wd1 (w.heap.size) [.slice A0 a0.length ca0, .slice L0 l0.length cl0, .slice D0 d0.length cd0, .slice S0 n0 cs0, .int .i64 c0, .float .f32 hub0, .float .f32 tip0]) := Lib.hid (K0.out.below b)
      clear K0x0 K0x1 K0x2 K0x3 K0x4 K0x5 K0x6
      clear K0
      clear b
      obtain ⟨K0x0, K0x1, K0x2, K0x3, K0x4, K0x5, K0x6⟩ := K0_1.out.sevenT
      go_wp2_with fail
      refine (l_toRotor A0 L0 D0 S0 ca0 cl0 cd0 n0 cs0 c0 hub0 tip0 a0 l0 d0 s0 _ (HP0.out.below B1.out) HN0.out).mono ?_
      rintro e wd2 ⟨p01, p02, p03, p04, rfl, ho, b⟩
      have B2 : Hid (Below w.heap.size w wd2) := Lib.hid (below_of B1.out B1.out.size b)
      have Z2 : Hid (wd1.heap.size ≤ wd2.heap.size) := Lib.hid b.size
      have K0_2 : Hid (BlkL wd2 (w.heap.size) [.slice A0 a0.length ca0, .slice L0 l0.length cl0, .slice D0 d0.length cd0, .slice S0 n0 cs0, .int .i64 c0, .float .f32 hub0, .float .f32 tip0]) := Lib.hid (K0_1.out.below b)
      clear K0x0 K0x1 K0x2 K0x3 K0x4 K0x5 K0x6
      clear K0_1
      have Xp0 : Hid (OwnT wd2 wd1.heap.size (some ⟨p01, 0, none⟩) (some ⟨p02, 0, none⟩) (some ⟨p03, 0, none⟩) (some ⟨p04, 0, none⟩) p01 p02 p03 p04 a0 l0 d0 s0) := Lib.hid (OwnR.t ho)
      have Xp0bd := Xp0
      clear ho b
      obtain ⟨K0x0, K0x1, K0x2, K0x3, K0x4, K0x5, K0x6⟩ := K0_2.out.sevenT
      go_wp2_with fail
      refine (l_toF32N A1 cap1 a1 _ (HP1.out.below B2.out) HN1.out).mono ?_
      rintro e wd3 ⟨rfl, ho, b⟩
      obtain ⟨p1, hp1⟩ : ∃ x, x = wd2.heap.size := ⟨_, rfl⟩
      rw [← hp1] at ho
      rw [← hp1]
      have B3 : Hid (Below w.heap.size w wd3) := Lib.hid (below_of B2.out B2.out.size b)
      have Z3 : Hid (wd2.heap.size ≤ wd3.heap.size) := Lib.hid b.size
      have K0_3 : Hid (BlkL wd3 (w.heap.size) [.slice A0 a0.length ca0, .slice L0 l0.length cl0, .slice D0 d0.length cd0, .slice S0 n0 cs0, .int .i64 c0, .float .f32 hub0, .float .f32 tip0]) := Lib.hid (K0_2.out.below b)
      have Xp0_1 : Hid (OwnT wd3 wd1.heap.size (some ⟨p01, 0, none⟩) (some ⟨p02, 0, none⟩) (some ⟨p03, 0, none⟩) (some ⟨p04, 0, none⟩) p01 p02 p03 p04 a0 l0 d0 s0) := Lib.hid (Xp0.out.below b)
      clear K0x0 K0x1 K0x2 K0x3 K0x4 K0x5 K0x6
      clear K0_2 Xp0
      have Xp1 : Hid (OwnO wd3 wd2.heap.size (some ⟨p1, 0, none⟩) p1 a1) := Lib.hid (Own.o ho (by omega))
      have Xp1bd := Xp1
      clear ho b hp1
      obtain ⟨K0x0, K0x1, K0x2, K0x3, K0x4, K0x5, K0x6⟩ := K0_3.out.sevenT
      go_wp2_with fail
      refine (s_PowerCurve _ _ _ _ _ _ _ _ _ _ _ _ a0 l0 d0 s0 u2 u3 u4 _ _ a1 _ Xp0_1.out.rt HN0.out Xp1.out.fl).mono ?_
      rintro e wd4 ⟨cR1, cc1, cg1, rfl, ho, b⟩
      have B4 : Hid (Below w.heap.size w wd4) := Lib.hid (below_of B3.out B3.out.size b)
      have Z4 : Hid (wd3.heap.size ≤ wd4.heap.size) := Lib.hid b.size
      have K0_4 : Hid (BlkL wd4 (w.heap.size) [.slice A0 a0.length ca0, .slice L0 l0.length cl0, .slice D0 d0.length cd0, .slice S0 n0 cs0, .int .i64 c0, .float .f32 hub0, .float .f32 tip0]) := Lib.hid (K0_3.out.below b)
      have Xp0_2 : Hid (OwnT wd4 wd1.heap.size (some ⟨p01, 0, none⟩) (some ⟨p02, 0, none⟩) (some ⟨p03, 0, none⟩) (some ⟨p04, 0, none⟩) p01 p02 p03 p04 a0 l0 d0 s0) := Lib.hid (Xp0_1.out.below b)
      have Xp1_1 : Hid (OwnO wd4 wd2.heap.size (some ⟨p1, 0, none⟩) p1 a1) := Lib.hid (Xp1.out.below b)
      clear K0x0 K0x1 K0x2 K0x3 K0x4 K0x5 K0x6
      clear K0_3 Xp0_1 Xp1
      have Xc : Hid (OwnO wd4 wd3.heap.size cR1 cg1 (pcL a0 l0 d0 s0 n0 c0 hub0 tip0 u2 u3 u4 a1)) := Lib.hid (ho)
      have Xcbd := Xc
      clear ho
      clear b
      obtain ⟨K0x0, K0x1, K0x2, K0x3, K0x4, K0x5, K0x6⟩ := K0_4.out.sevenT
      go_wp2_with fail
      refine (l_toRotor A0 L0 D0 S0 ca0 cl0 cd0 n0 cs0 c0 hub0 tip0 a0 l0 d0 s0 _ (HP0.out.below B4.out) HN0.out).mono ?_
      rintro e wd5 ⟨x01, x02, x03, x04, rfl, ho, b⟩
      have B5 : Hid (Below w.heap.size w wd5) := Lib.hid (below_of B4.out B4.out.size b)
      have Z5 : Hid (wd4.heap.size ≤ wd5.heap.size) := Lib.hid b.size
      have K0_5 : Hid (BlkL wd5 (w.heap.size) [.slice A0 a0.length ca0, .slice L0 l0.length cl0, .slice D0 d0.length cd0, .slice S0 n0 cs0, .int .i64 c0, .float .f32 hub0, .float .f32 tip0]) := Lib.hid (K0_4.out.below b)
      have Xc_1 : Hid (OwnO wd5 wd3.heap.size cR1 cg1 (pcL a0 l0 d0 s0 n0 c0 hub0 tip0 u2 u3 u4 a1)) := Lib.hid (Xc.out.below b)
      clear K0x0 K0x1 K0x2 K0x3 K0x4 K0x5 K0x6
      clear K0_4 Xc
      have Xx0 : Hid (OwnT wd5 wd4.heap.size (some ⟨x01, 0, none⟩) (some ⟨x02, 0, none⟩) (some ⟨x03, 0, none⟩) (some ⟨x04, 0, none⟩) x01 x02 x03 x04 a0 l0 d0 s0) := Lib.hid (OwnR.t ho)
      have Xx0bd := Xx0
      clear ho b
      obtain ⟨wd6, hw6⟩ : ∃ x, x = wd5.alloc (.cells #[.slice (some ⟨x01, 0, none⟩) a0.length a0.length, .slice (some ⟨x02, 0, none⟩) l0.length l0.length, .slice (some ⟨x03, 0, none⟩) d0.length d0.length, .slice (some ⟨x04, 0, none⟩) n0 n0, .int .i64 c0, .float .f32 hub0, .float .f32 tip0] 35) := ⟨_, rfl⟩
      have b : Below wd5.heap.size wd5 wd6 := by rw [hw6]; exact (Below.refl _ _).alloc (Nat.le_refl _) _
      have Y6 : Hid (wd5.heap.size + 1 ≤ wd6.heap.size) := Lib.hid (by rw [hw6]; simp)
      have B6 : Hid (Below w.heap.size w wd6) := Lib.hid (below_of B5.out B5.out.size b)
      have Z6 : Hid (wd5.heap.size ≤ wd6.heap.size) := Lib.hid b.size
      have K0_6 : Hid (BlkL wd6 (w.heap.size) [.slice A0 a0.length ca0, .slice L0 l0.length cl0, .slice D0 d0.length cd0, .slice S0 n0 cs0, .int .i64 c0, .float .f32 hub0, .float .f32 tip0]) := Lib.hid (K0_5.out.below b)
      have Xc_2 : Hid (OwnO wd6 wd3.heap.size cR1 cg1 (pcL a0 l0 d0 s0 n0 c0 hub0 tip0 u2 u3 u4 a1)) := Lib.hid (Xc_1.out.below b)
      have Xx0_1 : Hid (OwnT wd6 wd4.heap.size (some ⟨x01, 0, none⟩) (some ⟨x02, 0, none⟩) (some ⟨x03, 0, none⟩) (some ⟨x04, 0, none⟩) x01 x02 x03 x04 a0 l0 d0 s0) := Lib.hid (Xx0.out.below b)
      have V0 : Hid (BlkL wd6 (wd5.heap.size) [.slice (some ⟨x01, 0, none⟩) a0.length a0.length, .slice (some ⟨x02, 0, none⟩) l0.length l0.length, .slice (some ⟨x03, 0, none⟩) d0.length d0.length, .slice (some ⟨x04, 0, none⟩) n0 n0, .int .i64 c0, .float .f32 hub0, .float .f32 tip0]) := Lib.hid (by rw [hw6]; exact blkL_at wd5 #[.slice (some ⟨x01, 0, none⟩) a0.length a0.length, .slice (some ⟨x02, 0, none⟩) l0.length l0.length, .slice (some ⟨x03, 0, none⟩) d0.length d0.length, .slice (some ⟨x04, 0, none⟩) n0 n0, .int .i64 c0, .float .f32 hub0, .float .f32 tip0] 35 rfl)
      clear b
      have K0y0 := fun o => ((K0_5.out.alloc o).2 0 _ rfl).1
      have K0y1 := fun o => ((K0_5.out.alloc o).2 1 _ rfl).1
      have K0y2 := fun o => ((K0_5.out.alloc o).2 2 _ rfl).1
      have K0y3 := fun o => ((K0_5.out.alloc o).2 3 _ rfl).1
      have K0y4 := fun o => ((K0_5.out.alloc o).2 4 _ rfl).1
      have K0y5 := fun o => ((K0_5.out.alloc o).2 5 _ rfl).1
      have K0y6 := fun o => ((K0_5.out.alloc o).2 6 _ rfl).1
      go_wp2_with fail
      rw [← hw6]
      clear hw6
      clear K0y0 K0y1 K0y2 K0y3 K0y4 K0y5 K0y6
      clear K0_5 Xc_1 Xx0
      obtain ⟨K0x0, K0x1, K0x2, K0x3, K0x4, K0x5, K0x6⟩ := K0_6.out.sevenT
      obtain ⟨V0x0, V0x1, V0x2, V0x3, V0x4, V0x5, V0x6⟩ := V0.out.sevenT
      go_wp2_with fail
      refine (l_toF32N A1 cap1 a1 _ (HP1.out.below B6.out) HN1.out).mono ?_
      rintro e wd7 ⟨rfl, ho, b⟩
      obtain ⟨x1, hx1⟩ : ∃ x, x = wd6.heap.size := ⟨_, rfl⟩
      rw [← hx1] at ho
      rw [← hx1]
      have B7 : Hid (Below w.heap.size w wd7) := Lib.hid (below_of B6.out B6.out.size b)
      have Z7 : Hid (wd6.heap.size ≤ wd7.heap.size) := Lib.hid b.size
      have K0_7 : Hid (BlkL wd7 (w.heap.size) [.slice A0 a0.length ca0, .slice L0 l0.length cl0, .slice D0 d0.length cd0, .slice S0 n0 cs0, .int .i64 c0, .float .f32 hub0, .float .f32 tip0]) := Lib.hid (K0_6.out.below b)
      have Xc_3 : Hid (OwnO wd7 wd3.heap.size cR1 cg1 (pcL a0 l0 d0 s0 n0 c0 hub0 tip0 u2 u3 u4 a1)) := Lib.hid (Xc_2.out.below b)
      have Xx0_2 : Hid (OwnT wd7 wd4.heap.size (some ⟨x01, 0, none⟩) (some ⟨x02, 0, none⟩) (some ⟨x03, 0, none⟩) (some ⟨x04, 0, none⟩) x01 x02 x03 x04 a0 l0 d0 s0) := Lib.hid (Xx0_1.out.below b)
      have V0_1 : Hid (BlkL wd7 (wd5.heap.size) [.slice (some ⟨x01, 0, none⟩) a0.length a0.length, .slice (some ⟨x02, 0, none⟩) l0.length l0.length, .slice (some ⟨x03, 0, none⟩) d0.length d0.length, .slice (some ⟨x04, 0, none⟩) n0 n0, .int .i64 c0, .float .f32 hub0, .float .f32 tip0]) := Lib.hid (V0.out.below b)
      clear K0x0 K0x1 K0x2 K0x3 K0x4 K0x5 K0x6 V0x0 V0x1 V0x2 V0x3 V0x4 V0x5 V0x6
      clear K0_6 Xc_2 Xx0_1 V0
      have Xx1 : Hid (OwnO wd7 wd6.heap.size (some ⟨x1, 0, none⟩) x1 a1) := Lib.hid (Own.o ho (by omega))
      have Xx1bd := Xx1
      clear ho b hx1
      obtain ⟨K0x0, K0x1, K0x2, K0x3, K0x4, K0x5, K0x6⟩ := K0_7.out.sevenT
      obtain ⟨V0x0, V0x1, V0x2, V0x3, V0x4, V0x5, V0x6⟩ := V0_1.out.sevenT
      go_wp2_with fail
      refine (i_PowerCurve _ _ _ _ _ _ _ _ _ _ _ _ a0 l0 d0 s0 u2 u3 u4 _ _ a1 _ Xx0_2.out.rt HN0.out (Nat.le_refl _) Xx1.out.fl HN1.out).mono ?_
      rintro e wd8 ⟨gR1, gc1, gg1, rfl, ho, b⟩
      have B8 : Hid (Below w.heap.size w wd8) := Lib.hid (below_of B7.out B7.out.size b)
      have Z8 : Hid (wd7.heap.size ≤ wd8.heap.size) := Lib.hid b.size
      have K0_8 : Hid (BlkL wd8 (w.heap.size) [.slice A0 a0.length ca0, .slice L0 l0.length cl0, .slice D0 d0.length cd0, .slice S0 n0 cs0, .int .i64 c0, .float .f32 hub0, .float .f32 tip0]) := Lib.hid (K0_7.out.below b)
      have Xc_4 : Hid (OwnO wd8 wd3.heap.size cR1 cg1 (pcL a0 l0 d0 s0 n0 c0 hub0 tip0 u2 u3 u4 a1)) := Lib.hid (Xc_3.out.below b)
      have Xx0_3 : Hid (OwnT wd8 wd4.heap.size (some ⟨x01, 0, none⟩) (some ⟨x02, 0, none⟩) (some ⟨x03, 0, none⟩) (some ⟨x04, 0, none⟩) x01 x02 x03 x04 a0 l0 d0 s0) := Lib.hid (Xx0_2.out.below b)
      have V0_2 : Hid (BlkL wd8 (wd5.heap.size) [.slice (some ⟨x01, 0, none⟩) a0.length a0.length, .slice (some ⟨x02, 0, none⟩) l0.length l0.length, .slice (some ⟨x03, 0, none⟩) d0.length d0.length, .slice (some ⟨x04, 0, none⟩) n0 n0, .int .i64 c0, .float .f32 hub0, .float .f32 tip0]) := Lib.hid (V0_1.out.below b)
      have Xx1_1 : Hid (OwnO wd8 wd6.heap.size (some ⟨x1, 0, none⟩) x1 a1) := Lib.hid (Xx1.out.below b)
      clear K0x0 K0x1 K0x2 K0x3 K0x4 K0x5 K0x6 V0x0 V0x1 V0x2 V0x3 V0x4 V0x5 V0x6
      clear K0_7 Xc_3 Xx0_2 V0_1 Xx1
      have Xg : Hid (OwnO wd8 wd7.heap.size gR1 gg1 (pcL a0 l0 d0 s0 n0 c0 hub0 tip0 u2 u3 u4 a1)) := Lib.hid (ho)
      have Xgbd := Xg
      clear ho
      clear b
      obtain ⟨K0x0, K0x1, K0x2, K0x3, K0x4, K0x5, K0x6⟩ := K0_8.out.sevenT
      obtain ⟨V0x0, V0x1, V0x2, V0x3, V0x4, V0x5, V0x6⟩ := V0_2.out.sevenT
      go_wp2_with fail
      refine (l_eqF32 _ _ _ _ (pcL a0 l0 d0 s0 n0 c0 hub0 tip0 u2 u3 u4 a1) _ Xg.out.fl Xc_4.out.fl HF.out).mono ?_
      rintro e wd9 ⟨nq, rfl, hw⟩
      have b : Below wd8.heap.size wd8 wd9 := by rw [hw]; repeat (first | exact Below.refl _ _ | refine below_draws ?_ _)
      clear hw
      have B9 : Hid (Below w.heap.size w wd9) := Lib.hid (below_of B8.out B8.out.size b)
      have Z9 : Hid (wd8.heap.size ≤ wd9.heap.size) := Lib.hid b.size
      have K0_9 : Hid (BlkL wd9 (w.heap.size) [.slice A0 a0.length ca0, .slice L0 l0.length cl0, .slice D0 d0.length cd0, .slice S0 n0 cs0, .int .i64 c0, .float .f32 hub0, .float .f32 tip0]) := Lib.hid (K0_8.out.below b)
      have Xc_5 : Hid (OwnO wd9 wd3.heap.size cR1 cg1 (pcL a0 l0 d0 s0 n0 c0 hub0 tip0 u2 u3 u4 a1)) := Lib.hid (Xc_4.out.below b)
      have Xx0_4 : Hid (OwnT wd9 wd4.heap.size (some ⟨x01, 0, none⟩) (some ⟨x02, 0, none⟩) (some ⟨x03, 0, none⟩) (some ⟨x04, 0, none⟩) x01 x02 x03 x04 a0 l0 d0 s0) := Lib.hid (Xx0_3.out.below b)
      have V0_3 : Hid (BlkL wd9 (wd5.heap.size) [.slice (some ⟨x01, 0, none⟩) a0.length a0.length, .slice (some ⟨x02, 0, none⟩) l0.length l0.length, .slice (some ⟨x03, 0, none⟩) d0.length d0.length, .slice (some ⟨x04, 0, none⟩) n0 n0, .int .i64 c0, .float .f32 hub0, .float .f32 tip0]) := Lib.hid (V0_2.out.below b)
      have Xx1_2 : Hid (OwnO wd9 wd6.heap.size (some ⟨x1, 0, none⟩) x1 a1) := Lib.hid (Xx1_1.out.below b)
      have Xg_1 : Hid (OwnO wd9 wd7.heap.size gR1 gg1 (pcL a0 l0 d0 s0 n0 c0 hub0 tip0 u2 u3 u4 a1)) := Lib.hid (Xg.out.below b)
      clear K0x0 K0x1 K0x2 K0x3 K0x4 K0x5 K0x6 V0x0 V0x1 V0x2 V0x3 V0x4 V0x5 V0x6
      clear K0_8 Xc_4 Xx0_3 V0_2 Xx1_1 Xg
      clear b
      obtain ⟨K0x0, K0x1, K0x2, K0x3, K0x4, K0x5, K0x6⟩ := K0_9.out.sevenT
      obtain ⟨V0x0, V0x1, V0x2, V0x3, V0x4, V0x5, V0x6⟩ := V0_3.out.sevenT
      go_wp2_with fail
      clear K0x0 K0x1 K0x2 K0x3 K0x4 K0x5 K0x6 V0x0 V0x1 V0x2 V0x3 V0x4 V0x5 V0x6
      refine wp_region_inv4 (fun iq wv v => match iq with
        | 0 => v = .agg #[.slice (some ⟨x01, 0, none⟩) a0.length a0.length, .slice (some ⟨x02, 0, none⟩) l0.length l0.length, .slice (some ⟨x03, 0, none⟩) d0.length d0.length, .slice (some ⟨x04, 0, none⟩) n0 n0, .int .i64 c0, .float .f32 hub0, .float .f32 tip0]
        | 1 => v = .agg #[.slice A0 a0.length ca0, .slice L0 l0.length cl0, .slice D0 d0.length cd0, .slice S0 n0 cs0, .int .i64 c0, .float .f32 hub0, .float .f32 tip0]
        | 2 => ∃ q1 q2 q3 q4, v = .agg #[.slice (some ⟨q1, 0, none⟩) a0.length a0.length, .slice (some ⟨q2, 0, none⟩) l0.length l0.length, .slice (some ⟨q3, 0, none⟩) d0.length d0.length, .slice (some ⟨q4, 0, none⟩) n0 n0, .int .i64 c0, .float .f32 hub0, .float .f32 tip0] ∧ OwnT wv wd9.heap.size (some ⟨q1, 0, none⟩) (some ⟨q2, 0, none⟩) (some ⟨q3, 0, none⟩) (some ⟨q4, 0, none⟩) q1 q2 q3 q4 a0 l0 d0 s0
        | 3 => v = .bool true
        | 4 => v = .bool false
        | _ => False) (fun _ ww => Below wd9.heap.size wd9 ww) (fun w w' => Below w.heap.size w w') ?hmono (by kernel_rfl) (by kernel_rfl) ((Below.refl _ _).drew) ?hop ?hend
      case hmono =>
        intro i wa wb v hR hV
        rcases i with _ | _ | _ | _ | _ | i
        · exact hV
        · exact hV
        · obtain ⟨q1, q2, q3, q4, rfl, ho⟩ := hV; exact ⟨q1, q2, q3, q4, rfl, ho.below hR⟩
        · exact hV
        · exact hV
        · exact hV
      case hop =>
        intro q o hq listed act w3 hI hnot hcl hall
        have hB := hI.cls
        obtain ⟨K0x0, K0x1, K0x2, K0x3, K0x4, K0x5, K0x6⟩ := (K0_9.out.below hB).sevenT
        obtain ⟨V0x0, V0x1, V0x2, V0x3, V0x4, V0x5, V0x6⟩ := (V0_3.out.below hB).sevenT
        rcases q with _ | _ | _ | _ | _ | q
        · simp at hq; subst hq
          have g14 : act.tmps[14]?.getD undef = .pointer (some ⟨wd5.heap.size, 0, none⟩) := hI.kept 14 (by kernel_rfl)
          clear hI hall hnot hcl
          refine .inl ⟨wanted_none rfl, ?_⟩
          unfold Oper.wp
          go_simp
          all_goals first | exact ⟨_, rfl, Below.refl _ _, rfl, hB⟩ | exact ⟨Below.refl _ _, hB⟩ | exact Below.refl _ _
        · simp at hq; subst hq
          have g5 : act.tmps[5]?.getD undef = .pointer (some ⟨w.heap.size, 0, none⟩) := hI.kept 5 (by kernel_rfl)
          clear hI hall hnot hcl
          refine .inl ⟨wanted_none rfl, ?_⟩
          unfold Oper.wp
          go_simp
          all_goals first | exact ⟨_, rfl, Below.refl _ _, rfl, hB⟩ | exact ⟨Below.refl _ _, hB⟩ | exact Below.refl _ _
        · simp at hq; subst hq
          have g65 : act.tmps[65]?.getD undef = .agg #[.slice A0 a0.length ca0, .slice L0 l0.length cl0, .slice D0 d0.length cd0, .slice S0 n0 cs0, .int .i64 c0, .float .f32 hub0, .float .f32 tip0] := hI.has 1 65 rfl (hall ⟨1, .data⟩ (by simp) rfl)
          clear hI hall hnot hcl
          refine .inl ⟨wanted_none rfl, ?_⟩
          unfold Oper.wp
          go_simp
          refine (l_toRotor A0 L0 D0 S0 ca0 cl0 cd0 n0 cs0 c0 hub0 tip0 a0 l0 d0 s0 _ (HP0.out.below (below_of B9.out B9.out.size hB)) HN0.out).mono ?_
          rintro e w4 ⟨q1, q2, q3, q4, rfl, ho, b4⟩
          exact ⟨_, rfl, b4, ⟨q1, q2, q3, q4, rfl, (OwnR.t ho).baseT (by have := hB.size; omega)⟩, below_of hB hB.size b4⟩
        · simp at hq; subst hq
          have g64 : act.tmps[64]?.getD undef = .agg #[.slice (some ⟨x01, 0, none⟩) a0.length a0.length, .slice (some ⟨x02, 0, none⟩) l0.length l0.length, .slice (some ⟨x03, 0, none⟩) d0.length d0.length, .slice (some ⟨x04, 0, none⟩) n0 n0, .int .i64 c0, .float .f32 hub0, .float .f32 tip0] := hI.has 0 64 rfl (hall ⟨0, .data⟩ (by simp) rfl)
          obtain ⟨q12, q22, q32, q42, g66, h2a⟩ := hI.has 2 66 rfl (hall ⟨2, .data⟩ (by simp) rfl)
          clear hI hall hnot hcl
          refine .inl ⟨wanted_none rfl, ?_⟩
          unfold Oper.wp
          go_simp
          refine (l_eqRotor _ _ _ _ _ _ _ _ _ _ _ _ _ _ _ _ _ _ _ _ a0 l0 d0 s0 _ (Xx0_4.out.below hB).rt (OwnT.rt h2a) HN0.out).mono ?_
          rintro e w4 ⟨rfl, b4⟩
          exact ⟨_, rfl, b4, rfl, below_of hB hB.size b4⟩
        · simp at hq; subst hq
          have g67 : act.tmps[67]?.getD undef = .bool true := hI.has 3 67 rfl (hall ⟨3, .data⟩ (by simp) rfl)
          clear hI hall hnot hcl
          refine .inl ⟨wanted_none rfl, ?_⟩
          unfold Oper.wp
          go_simp
          all_goals first | exact ⟨_, rfl, Below.refl _ _, rfl, hB⟩ | exact ⟨Below.refl _ _, hB⟩ | exact Below.refl _ _
        · simp at hq
      case hend =>
        intro listed act w3 hI hall
        have hB := hI.cls
        obtain ⟨K0x0, K0x1, K0x2, K0x3, K0x4, K0x5, K0x6⟩ := (K0_9.out.below hB).sevenT
        obtain ⟨V0x0, V0x1, V0x2, V0x3, V0x4, V0x5, V0x6⟩ := (V0_3.out.below hB).sevenT
        have g68 : act.tmps[68]?.getD undef = .bool false := hI.has 4 68 rfl (hall 4 (by decide))
        have g0 := hI.kept 0 (by kernel_rfl)
        conv at g0 => rhs; whnf
        have g1 := hI.kept 1 (by kernel_rfl)
        conv at g1 => rhs; whnf
        have g2 := hI.kept 2 (by kernel_rfl)
        conv at g2 => rhs; whnf
        have g3 := hI.kept 3 (by kernel_rfl)
        conv at g3 => rhs; whnf
        have g4 := hI.kept 4 (by kernel_rfl)
        conv at g4 => rhs; whnf
        have g5 := hI.kept 5 (by kernel_rfl)
        conv at g5 => rhs; whnf
        have g6 : act.tmps[6]?.getD undef = undef := hI.kept 6 (by kernel_rfl)
        have g7 : act.tmps[7]?.getD undef = undef := hI.kept 7 (by kernel_rfl)
        have g8 : act.tmps[8]?.getD undef = undef := hI.kept 8 (by kernel_rfl)
        have g9 : act.tmps[9]?.getD undef = undef := hI.kept 9 (by kernel_rfl)
        have g10 := hI.kept 10 (by kernel_rfl)
        conv at g10 => rhs; whnf
        have g11 := hI.kept 11 (by kernel_rfl)
        conv at g11 => rhs; whnf
        have g12 := hI.kept 12 (by kernel_rfl)
        conv at g12 => rhs; whnf
        have g13 := hI.kept 13 (by kernel_rfl)
        conv at g13 => rhs; whnf
        have g14 := hI.kept 14 (by kernel_rfl)
        conv at g14 => rhs; whnf
        have g15 := hI.kept 15 (by kernel_rfl)
        conv at g15 => rhs; whnf
        have g16 := hI.kept 16 (by kernel_rfl)
        conv at g16 => rhs; whnf
        have g17 := hI.kept 17 (by kernel_rfl)
        conv at g17 => rhs; whnf
        have g18 : act.tmps[18]?.getD undef = undef := hI.kept 18 (by kernel_rfl)
        have g19 : act.tmps[19]?.getD undef = undef := hI.kept 19 (by kernel_rfl)
        have g20 : act.tmps[20]?.getD undef = undef := hI.kept 20 (by kernel_rfl)
        have g21 : act.tmps[21]?.getD undef = undef := hI.kept 21 (by kernel_rfl)
        have g22 : act.tmps[22]?.getD undef = undef := hI.kept 22 (by kernel_rfl)
        have g23 := hI.kept 23 (by kernel_rfl)
        conv at g23 => rhs; whnf
        have g24 := hI.kept 24 (by kernel_rfl)
        conv at g24 => rhs; whnf
        have g25 := hI.kept 25 (by kernel_rfl)
        conv at g25 => rhs; whnf
        have g26 := hI.kept 26 (by kernel_rfl)
        conv at g26 => rhs; whnf
        have g27 := hI.kept 27 (by kernel_rfl)
        conv at g27 => rhs; whnf
        have g28 := hI.kept 28 (by kernel_rfl)
        conv at g28 => rhs; whnf
        have g29 := hI.kept 29 (by kernel_rfl)
        conv at g29 => rhs; whnf
        have g30 := hI.kept 30 (by kernel_rfl)
        conv at g30 => rhs; whnf
        have g31 := hI.kept 31 (by kernel_rfl)
        conv at g31 => rhs; whnf
        have g32 := hI.kept 32 (by kernel_rfl)
        conv at g32 => rhs; whnf
        have g33 := hI.kept 33 (by kernel_rfl)
        conv at g33 => rhs; whnf
        have g34 := hI.kept 34 (by kernel_rfl)
        conv at g34 => rhs; whnf
        have g35 := hI.kept 35 (by kernel_rfl)
        conv at g35 => rhs; whnf
        have g36 := hI.kept 36 (by kernel_rfl)
        conv at g36 => rhs; whnf
        have g37 := hI.kept 37 (by kernel_rfl)
        conv at g37 => rhs; whnf
        have g38 := hI.kept 38 (by kernel_rfl)
        conv at g38 => rhs; whnf
        have g39 := hI.kept 39 (by kernel_rfl)
        conv at g39 => rhs; whnf
        have g40 := hI.kept 40 (by kernel_rfl)
        conv at g40 => rhs; whnf
        have g41 := hI.kept 41 (by kernel_rfl)
        conv at g41 => rhs; whnf
        have g42 := hI.kept 42 (by kernel_rfl)
        conv at g42 => rhs; whnf
        have g43 := hI.kept 43 (by kernel_rfl)
        conv at g43 => rhs; whnf
        have g44 := hI.kept 44 (by kernel_rfl)
        conv at g44 => rhs; whnf
        have g45 := hI.kept 45 (by kernel_rfl)
        conv at g45 => rhs; whnf
        have g46 := hI.kept 46 (by kernel_rfl)
        conv at g46 => rhs; whnf
        have g47 := hI.kept 47 (by kernel_rfl)
        conv at g47 => rhs; whnf
        have g48 := hI.kept 48 (by kernel_rfl)
        conv at g48 => rhs; whnf
        have g49 := hI.kept 49 (by kernel_rfl)
        conv at g49 => rhs; whnf
        have g50 := hI.kept 50 (by kernel_rfl)
        conv at g50 => rhs; whnf
        have g51 := hI.kept 51 (by kernel_rfl)
        conv at g51 => rhs; whnf
        have g52 := hI.kept 52 (by kernel_rfl)
        conv at g52 => rhs; whnf
        have g53 := hI.kept 53 (by kernel_rfl)
        conv at g53 => rhs; whnf
        have g54 := hI.kept 54 (by kernel_rfl)
        conv at g54 => rhs; whnf
        have g55 := hI.kept 55 (by kernel_rfl)
        conv at g55 => rhs; whnf
        have g56 := hI.kept 56 (by kernel_rfl)
        conv at g56 => rhs; whnf
        have g57 := hI.kept 57 (by kernel_rfl)
        conv at g57 => rhs; whnf
        have g58 := hI.kept 58 (by kernel_rfl)
        conv at g58 => rhs; whnf
        have g59 := hI.kept 59 (by kernel_rfl)
        conv at g59 => rhs; whnf
        have g60 := hI.kept 60 (by kernel_rfl)
        conv at g60 => rhs; whnf
        have g61 := hI.kept 61 (by kernel_rfl)
        conv at g61 => rhs; whnf
        have g62 := hI.kept 62 (by kernel_rfl)
        conv at g62 => rhs; whnf
        have g63 := hI.kept 63 (by kernel_rfl)
        conv at g63 => rhs; whnf
        have g69 : act.tmps[69]?.getD undef = undef := hI.kept 69 (by kernel_rfl)
        have g70 : act.tmps[70]?.getD undef = undef := hI.kept 70 (by kernel_rfl)
        have g71 : act.tmps[71]?.getD undef = undef := hI.kept 71 (by kernel_rfl)
        have g72 : act.tmps[72]?.getD undef = undef := hI.kept 72 (by kernel_rfl)
        have g73 : act.tmps[73]?.getD undef = undef := hI.kept 73 (by kernel_rfl)
        have g74 : act.tmps[74]?.getD undef = undef := hI.kept 74 (by kernel_rfl)
        have g75 : act.tmps[75]?.getD undef = undef := hI.kept 75 (by kernel_rfl)
        have g76 : act.tmps[76]?.getD undef = undef := hI.kept 76 (by kernel_rfl)
        have g77 : act.tmps[77]?.getD undef = undef := hI.kept 77 (by kernel_rfl)
        have g78 : act.tmps[78]?.getD undef = undef := hI.kept 78 (by kernel_rfl)
        have g79 : act.tmps[79]?.getD undef = undef := hI.kept 79 (by kernel_rfl)
        have g80 : act.tmps[80]?.getD undef = undef := hI.kept 80 (by kernel_rfl)
        have g81 : act.tmps[81]?.getD undef = undef := hI.kept 81 (by kernel_rfl)
        have g82 : act.tmps[82]?.getD undef = undef := hI.kept 82 (by kernel_rfl)
        have g83 : act.tmps[83]?.getD undef = undef := hI.kept 83 (by kernel_rfl)
        have g84 : act.tmps[84]?.getD undef = undef := hI.kept 84 (by kernel_rfl)
        have g85 : act.tmps[85]?.getD undef = undef := hI.kept 85 (by kernel_rfl)
        have g86 : act.tmps[86]?.getD undef = undef := hI.kept 86 (by kernel_rfl)
        have g87 : act.tmps[87]?.getD undef = undef := hI.kept 87 (by kernel_rfl)
        have g88 : act.tmps[88]?.getD undef = undef := hI.kept 88 (by kernel_rfl)
        have g89 : act.tmps[89]?.getD undef = undef := hI.kept 89 (by kernel_rfl)
        have g90 : act.tmps[90]?.getD undef = undef := hI.kept 90 (by kernel_rfl)
        have g91 : act.tmps[91]?.getD undef = undef := hI.kept 91 (by kernel_rfl)
        have g92 : act.tmps[92]?.getD undef = undef := hI.kept 92 (by kernel_rfl)
        have g93 : act.tmps[93]?.getD undef = undef := hI.kept 93 (by kernel_rfl)
        have g94 : act.tmps[94]?.getD undef = undef := hI.kept 94 (by kernel_rfl)
        have g95 : act.tmps[95]?.getD undef = undef := hI.kept 95 (by kernel_rfl)
        have g96 : act.tmps[96]?.getD undef = undef := hI.kept 96 (by kernel_rfl)
        have g97 : act.tmps[97]?.getD undef = undef := hI.kept 97 (by kernel_rfl)
        have g98 : act.tmps[98]?.getD undef = undef := hI.kept 98 (by kernel_rfl)
        have g99 : act.tmps[99]?.getD undef = undef := hI.kept 99 (by kernel_rfl)
        have g100 : act.tmps[100]?.getD undef = undef := hI.kept 100 (by kernel_rfl)
        have g101 : act.tmps[101]?.getD undef = undef := hI.kept 101 (by kernel_rfl)
        have g102 : act.tmps[102]?.getD undef = undef := hI.kept 102 (by kernel_rfl)
        have g103 : act.tmps[103]?.getD undef = undef := hI.kept 103 (by kernel_rfl)
        have g104 : act.tmps[104]?.getD undef = undef := hI.kept 104 (by kernel_rfl)
        have g105 : act.tmps[105]?.getD undef = undef := hI.kept 105 (by kernel_rfl)
        have g106 : act.tmps[106]?.getD undef = undef := hI.kept 106 (by kernel_rfl)
        have g107 : act.tmps[107]?.getD undef = undef := hI.kept 107 (by kernel_rfl)
        have g108 : act.tmps[108]?.getD undef = undef := hI.kept 108 (by kernel_rfl)
        have g109 : act.tmps[109]?.getD undef = undef := hI.kept 109 (by kernel_rfl)
        have g110 : act.tmps[110]?.getD undef = undef := hI.kept 110 (by kernel_rfl)
        have g111 : act.tmps[111]?.getD undef = undef := hI.kept 111 (by kernel_rfl)
        have g112 : act.tmps[112]?.getD undef = undef := hI.kept 112 (by kernel_rfl)
        have g113 : act.tmps[113]?.getD undef = undef := hI.kept 113 (by kernel_rfl)
        have g114 : act.tmps[114]?.getD undef = undef := hI.kept 114 (by kernel_rfl)
        have g115 : act.tmps[115]?.getD undef = undef := hI.kept 115 (by kernel_rfl)
        have g116 : act.tmps[116]?.getD undef = undef := hI.kept 116 (by kernel_rfl)
        have g117 : act.tmps[117]?.getD undef = undef := hI.kept 117 (by kernel_rfl)
        have g118 : act.tmps[118]?.getD undef = undef := hI.kept 118 (by kernel_rfl)
        have g119 : act.tmps[119]?.getD undef = undef := hI.kept 119 (by kernel_rfl)
        have g120 : act.tmps[120]?.getD undef = undef := hI.kept 120 (by kernel_rfl)
        have g121 : act.tmps[121]?.getD undef = undef := hI.kept 121 (by kernel_rfl)
        have g122 : act.tmps[122]?.getD undef = undef := hI.kept 122 (by kernel_rfl)
        have g123 : act.tmps[123]?.getD undef = undef := hI.kept 123 (by kernel_rfl)
        have g124 : act.tmps[124]?.getD undef = undef := hI.kept 124 (by kernel_rfl)
        have g125 : act.tmps[125]?.getD undef = undef := hI.kept 125 (by kernel_rfl)
        have g126 : act.tmps[126]?.getD undef = undef := hI.kept 126 (by kernel_rfl)
        have g127 : act.tmps[127]?.getD undef = undef := hI.kept 127 (by kernel_rfl)
        have g128 : act.tmps[128]?.getD undef = undef := hI.kept 128 (by kernel_rfl)
        have g129 : act.tmps[129]?.getD undef = undef := hI.kept 129 (by kernel_rfl)
        have g130 : act.tmps[130]?.getD undef = undef := hI.kept 130 (by kernel_rfl)
        have g131 : act.tmps[131]?.getD undef = undef := hI.kept 131 (by kernel_rfl)
        have hsz : act.tmps.size = 132 := hI.size.trans (by kernel_rfl)
        have hd := hI.defers
        clear hI hall K0x0 K0x1 K0x2 K0x3 K0x4 K0x5 K0x6 V0x0 V0x1 V0x2 V0x3 V0x4 V0x5 V0x6
        obtain ⟨tt, dd⟩ := act
        simp only at g0 g1 g2 g3 g4 g5 g6 g7 g8 g9 g10 g11 g12 g13 g14 g15 g16 g17 g18 g19 g20 g21 g22 g23 g24 g25 g26 g27 g28 g29 g30 g31 g32 g33 g34 g35 g36 g37 g38 g39 g40 g41 g42 g43 g44 g45 g46 g47 g48 g49 g50 g51 g52 g53 g54 g55 g56 g57 g58 g59 g60 g61 g62 g63 g68 g69 g70 g71 g72 g73 g74 g75 g76 g77 g78 g79 g80 g81 g82 g83 g84 g85 g86 g87 g88 g89 g90 g91 g92 g93 g94 g95 g96 g97 g98 g99 g100 g101 g102 g103 g104 g105 g106 g107 g108 g109 g110 g111 g112 g113 g114 g115 g116 g117 g118 g119 g120 g121 g122 g123 g124 g125 g126 g127 g128 g129 g130 g131 hsz hd
        subst hd
        have hl : tt = #[tt[0]?.getD undef, tt[1]?.getD undef, tt[2]?.getD undef, tt[3]?.getD undef, tt[4]?.getD undef, tt[5]?.getD undef, tt[6]?.getD undef, tt[7]?.getD undef, tt[8]?.getD undef, tt[9]?.getD undef, tt[10]?.getD undef, tt[11]?.getD undef, tt[12]?.getD undef, tt[13]?.getD undef, tt[14]?.getD undef, tt[15]?.getD undef, tt[16]?.getD undef, tt[17]?.getD undef, tt[18]?.getD undef, tt[19]?.getD undef, tt[20]?.getD undef, tt[21]?.getD undef, tt[22]?.getD undef, tt[23]?.getD undef, tt[24]?.getD undef, tt[25]?.getD undef, tt[26]?.getD undef, tt[27]?.getD undef, tt[28]?.getD undef, tt[29]?.getD undef, tt[30]?.getD undef, tt[31]?.getD undef, tt[32]?.getD undef, tt[33]?.getD undef, tt[34]?.getD undef, tt[35]?.getD undef, tt[36]?.getD undef, tt[37]?.getD undef, tt[38]?.getD undef, tt[39]?.getD undef, tt[40]?.getD undef, tt[41]?.getD undef, tt[42]?.getD undef, tt[43]?.getD undef, tt[44]?.getD undef, tt[45]?.getD undef, tt[46]?.getD undef, tt[47]?.getD undef, tt[48]?.getD undef, tt[49]?.getD undef, tt[50]?.getD undef, tt[51]?.getD undef, tt[52]?.getD undef, tt[53]?.getD undef, tt[54]?.getD undef, tt[55]?.getD undef, tt[56]?.getD undef, tt[57]?.getD undef, tt[58]?.getD undef, tt[59]?.getD undef, tt[60]?.getD undef, tt[61]?.getD undef, tt[62]?.getD undef, tt[63]?.getD undef, tt[64]?.getD undef, tt[65]?.getD undef, tt[66]?.getD undef, tt[67]?.getD undef, tt[68]?.getD undef, tt[69]?.getD undef, tt[70]?.getD undef, tt[71]?.getD undef, tt[72]?.getD undef, tt[73]?.getD undef, tt[74]?.getD undef, tt[75]?.getD undef, tt[76]?.getD undef, tt[77]?.getD undef, tt[78]?.getD undef, tt[79]?.getD undef, tt[80]?.getD undef, tt[81]?.getD undef, tt[82]?.getD undef, tt[83]?.getD undef, tt[84]?.getD undef, tt[85]?.getD undef, tt[86]?.getD undef, tt[87]?.getD undef, tt[88]?.getD undef, tt[89]?.getD undef, tt[90]?.getD undef, tt[91]?.getD undef, tt[92]?.getD undef, tt[93]?.getD undef, tt[94]?.getD undef, tt[95]?.getD undef, tt[96]?.getD undef, tt[97]?.getD undef, tt[98]?.getD undef, tt[99]?.getD undef, tt[100]?.getD undef, tt[101]?.getD undef, tt[102]?.getD undef, tt[103]?.getD undef, tt[104]?.getD undef, tt[105]?.getD undef, tt[106]?.getD undef, tt[107]?.getD undef, tt[108]?.getD undef, tt[109]?.getD undef, tt[110]?.getD undef, tt[111]?.getD undef, tt[112]?.getD undef, tt[113]?.getD undef, tt[114]?.getD undef, tt[115]?.getD undef, tt[116]?.getD undef, tt[117]?.getD undef, tt[118]?.getD undef, tt[119]?.getD undef, tt[120]?.getD undef, tt[121]?.getD undef, tt[122]?.getD undef, tt[123]?.getD undef, tt[124]?.getD undef, tt[125]?.getD undef, tt[126]?.getD undef, tt[127]?.getD undef, tt[128]?.getD undef, tt[129]?.getD undef, tt[130]?.getD undef, tt[131]?.getD undef] := (arr_lit hsz).trans rfl
        rw [g0, g1, g2, g3, g4, g5, g6, g7, g8, g9, g10, g11, g12, g13, g14, g15, g16, g17, g18, g19, g20, g21, g22, g23, g24, g25, g26, g27, g28, g29, g30, g31, g32, g33, g34, g35, g36, g37, g38, g39, g40, g41, g42, g43, g44, g45, g46, g47, g48, g49, g50, g51, g52, g53, g54, g55, g56, g57, g58, g59, g60, g61, g62, g63, g68, g69, g70, g71, g72, g73, g74, g75, g76, g77, g78, g79, g80, g81, g82, g83, g84, g85, g86, g87, g88, g89, g90, g91, g92, g93, g94, g95, g96, g97, g98, g99, g100, g101, g102, g103, g104, g105, g106, g107, g108, g109, g110, g111, g112, g113, g114, g115, g116, g117, g118, g119, g120, g121, g122, g123, g124, g125, g126, g127, g128, g129, g130, g131] at hl
        clear g0 g1 g2 g3 g4 g5 g6 g7 g8 g9 g10 g11 g12 g13 g14 g15 g16 g17 g18 g19 g20 g21 g22 g23 g24 g25 g26 g27 g28 g29 g30 g31 g32 g33 g34 g35 g36 g37 g38 g39 g40 g41 g42 g43 g44 g45 g46 g47 g48 g49 g50 g51 g52 g53 g54 g55 g56 g57 g58 g59 g60 g61 g62 g63 g68 g69 g70 g71 g72 g73 g74 g75 g76 g77 g78 g79 g80 g81 g82 g83 g84 g85 g86 g87 g88 g89 g90 g91 g92 g93 g94 g95 g96 g97 g98 g99 g100 g101 g102 g103 g104 g105 g106 g107 g108 g109 g110 g111 g112 g113 g114 g115 g116 g117 g118 g119 g120 g121 g122 g123 g124 g125 g126 g127 g128 g129 g130 g131 hsz
        generalize tt[64]?.getD undef = y64 at hl
        generalize tt[65]?.getD undef = y65 at hl
        generalize tt[66]?.getD undef = y66 at hl
        generalize tt[67]?.getD undef = y67 at hl
        subst hl
        obtain ⟨wd10, hww⟩ : ∃ x, x = w3 := ⟨_, rfl⟩
        rw [← hww] at hB ⊢
        clear hww
        have B10 : Hid (Below w.heap.size w wd10) := Lib.hid (below_of B9.out B9.out.size hB)
        have Z10 : Hid (wd9.heap.size ≤ wd10.heap.size) := Lib.hid hB.size
        have K0_10 : Hid (BlkL wd10 (w.heap.size) [.slice A0 a0.length ca0, .slice L0 l0.length cl0, .slice D0 d0.length cd0, .slice S0 n0 cs0, .int .i64 c0, .float .f32 hub0, .float .f32 tip0]) := Lib.hid (K0_9.out.below hB)
        have Xc_6 : Hid (OwnO wd10 wd3.heap.size cR1 cg1 (pcL a0 l0 d0 s0 n0 c0 hub0 tip0 u2 u3 u4 a1)) := Lib.hid (Xc_5.out.below hB)
        have Xx0_5 : Hid (OwnT wd10 wd4.heap.size (some ⟨x01, 0, none⟩) (some ⟨x02, 0, none⟩) (some ⟨x03, 0, none⟩) (some ⟨x04, 0, none⟩) x01 x02 x03 x04 a0 l0 d0 s0) := Lib.hid (Xx0_4.out.below hB)
        have V0_4 : Hid (BlkL wd10 (wd5.heap.size) [.slice (some ⟨x01, 0, none⟩) a0.length a0.length, .slice (some ⟨x02, 0, none⟩) l0.length l0.length, .slice (some ⟨x03, 0, none⟩) d0.length d0.length, .slice (some ⟨x04, 0, none⟩) n0 n0, .int .i64 c0, .float .f32 hub0, .float .f32 tip0]) := Lib.hid (V0_3.out.below hB)
        have Xx1_3 : Hid (OwnO wd10 wd6.heap.size (some ⟨x1, 0, none⟩) x1 a1) := Lib.hid (Xx1_2.out.below hB)
        have Xg_2 : Hid (OwnO wd10 wd7.heap.size gR1 gg1 (pcL a0 l0 d0 s0 n0 c0 hub0 tip0 u2 u3 u4 a1)) := Lib.hid (Xg_1.out.below hB)
        clear K0_9 Xc_5 Xx0_4 V0_3 Xx1_2 Xg_1
        clear hB
        obtain ⟨K0x0, K0x1, K0x2, K0x3, K0x4, K0x5, K0x6⟩ := K0_10.out.sevenT
        obtain ⟨V0x0, V0x1, V0x2, V0x3, V0x4, V0x5, V0x6⟩ := V0_4.out.sevenT
        go_wp2_with fail
        refine (l_toF32N A1 cap1 a1 _ (HP1.out.below B10.out) HN1.out).mono ?_
        rintro e wd11 ⟨rfl, ho, b⟩
        obtain ⟨y1, hy1⟩ : ∃ x, x = wd10.heap.size := ⟨_, rfl⟩
        rw [← hy1] at ho
        rw [← hy1]
        have B11 : Hid (Below w.heap.size w wd11) := Lib.hid (below_of B10.out B10.out.size b)
        have Z11 : Hid (wd10.heap.size ≤ wd11.heap.size) := Lib.hid b.size
        have K0_11 : Hid (BlkL wd11 (w.heap.size) [.slice A0 a0.length ca0, .slice L0 l0.length cl0, .slice D0 d0.length cd0, .slice S0 n0 cs0, .int .i64 c0, .float .f32 hub0, .float .f32 tip0]) := Lib.hid (K0_10.out.below b)
        have Xc_7 : Hid (OwnO wd11 wd3.heap.size cR1 cg1 (pcL a0 l0 d0 s0 n0 c0 hub0 tip0 u2 u3 u4 a1)) := Lib.hid (Xc_6.out.below b)
        have Xx0_6 : Hid (OwnT wd11 wd4.heap.size (some ⟨x01, 0, none⟩) (some ⟨x02, 0, none⟩) (some ⟨x03, 0, none⟩) (some ⟨x04, 0, none⟩) x01 x02 x03 x04 a0 l0 d0 s0) := Lib.hid (Xx0_5.out.below b)
        have V0_5 : Hid (BlkL wd11 (wd5.heap.size) [.slice (some ⟨x01, 0, none⟩) a0.length a0.length, .slice (some ⟨x02, 0, none⟩) l0.length l0.length, .slice (some ⟨x03, 0, none⟩) d0.length d0.length, .slice (some ⟨x04, 0, none⟩) n0 n0, .int .i64 c0, .float .f32 hub0, .float .f32 tip0]) := Lib.hid (V0_4.out.below b)
        have Xx1_4 : Hid (OwnO wd11 wd6.heap.size (some ⟨x1, 0, none⟩) x1 a1) := Lib.hid (Xx1_3.out.below b)
        have Xg_3 : Hid (OwnO wd11 wd7.heap.size gR1 gg1 (pcL a0 l0 d0 s0 n0 c0 hub0 tip0 u2 u3 u4 a1)) := Lib.hid (Xg_2.out.below b)
        clear K0x0 K0x1 K0x2 K0x3 K0x4 K0x5 K0x6 V0x0 V0x1 V0x2 V0x3 V0x4 V0x5 V0x6
        clear K0_10 Xc_6 Xx0_5 V0_4 Xx1_3 Xg_2
        have Xy1 : Hid (OwnO wd11 wd10.heap.size (some ⟨y1, 0, none⟩) y1 a1) := Lib.hid (Own.o ho (by omega))
        have Xy1bd := Xy1
        clear ho b hy1
        obtain ⟨K0x0, K0x1, K0x2, K0x3, K0x4, K0x5, K0x6⟩ := K0_11.out.sevenT
        obtain ⟨V0x0, V0x1, V0x2, V0x3, V0x4, V0x5, V0x6⟩ := V0_5.out.sevenT
        go_wp2_with fail
        refine (l_eqF32 _ _ _ _ a1 _ Xx1_4.out.fl Xy1.out.fl HN1.out).mono ?_
        rintro e wd12 ⟨nq, rfl, hw⟩
        have b : Below wd11.heap.size wd11 wd12 := by rw [hw]; repeat (first | exact Below.refl _ _ | refine below_draws ?_ _)
        clear hw
        have B12 : Hid (Below w.heap.size w wd12) := Lib.hid (below_of B11.out B11.out.size b)
        have Z12 : Hid (wd11.heap.size ≤ wd12.heap.size) := Lib.hid b.size
        have K0_12 : Hid (BlkL wd12 (w.heap.size) [.slice A0 a0.length ca0, .slice L0 l0.length cl0, .slice D0 d0.length cd0, .slice S0 n0 cs0, .int .i64 c0, .float .f32 hub0, .float .f32 tip0]) := Lib.hid (K0_11.out.below b)
        have Xc_8 : Hid (OwnO wd12 wd3.heap.size cR1 cg1 (pcL a0 l0 d0 s0 n0 c0 hub0 tip0 u2 u3 u4 a1)) := Lib.hid (Xc_7.out.below b)
        have Xx0_7 : Hid (OwnT wd12 wd4.heap.size (some ⟨x01, 0, none⟩) (some ⟨x02, 0, none⟩) (some ⟨x03, 0, none⟩) (some ⟨x04, 0, none⟩) x01 x02 x03 x04 a0 l0 d0 s0) := Lib.hid (Xx0_6.out.below b)
        have V0_6 : Hid (BlkL wd12 (wd5.heap.size) [.slice (some ⟨x01, 0, none⟩) a0.length a0.length, .slice (some ⟨x02, 0, none⟩) l0.length l0.length, .slice (some ⟨x03, 0, none⟩) d0.length d0.length, .slice (some ⟨x04, 0, none⟩) n0 n0, .int .i64 c0, .float .f32 hub0, .float .f32 tip0]) := Lib.hid (V0_5.out.below b)
        have Xx1_5 : Hid (OwnO wd12 wd6.heap.size (some ⟨x1, 0, none⟩) x1 a1) := Lib.hid (Xx1_4.out.below b)
        have Xg_4 : Hid (OwnO wd12 wd7.heap.size gR1 gg1 (pcL a0 l0 d0 s0 n0 c0 hub0 tip0 u2 u3 u4 a1)) := Lib.hid (Xg_3.out.below b)
        have Xy1_1 : Hid (OwnO wd12 wd10.heap.size (some ⟨y1, 0, none⟩) y1 a1) := Lib.hid (Xy1.out.below b)
        clear K0x0 K0x1 K0x2 K0x3 K0x4 K0x5 K0x6 V0x0 V0x1 V0x2 V0x3 V0x4 V0x5 V0x6
        clear K0_11 Xc_7 Xx0_6 V0_5 Xx1_4 Xg_3 Xy1
        clear b
        obtain ⟨K0x0, K0x1, K0x2, K0x3, K0x4, K0x5, K0x6⟩ := K0_12.out.sevenT
        obtain ⟨V0x0, V0x1, V0x2, V0x3, V0x4, V0x5, V0x6⟩ := V0_6.out.sevenT
        go_wp2_with fail
        refine (l_markRotor _ _ _ _ _ _ _ _ _ _ _ _ _ _ (1) _ _ _ a0 l0 d0 s0 _ (Xx0_7.out) HN0.out (by omega) _ (by omega)).mono ?_
        rintro e wd13 ⟨rfl, -, t⟩
        have B13 : Hid (Below w.heap.size w wd13) := Lib.hid (t.2.2.2 w B12.out (by intro b hh; have h1 := Xx0bd.out.bd hh; have := Z0.out; have := Z1.out; have := Z2.out; have := Z3.out; have := Z4.out; have := Z5.out; have := Z6.out; have := Y6.out; have := Z7.out; have := Z8.out; have := Z9.out; have := Z10.out; have := Z11.out; have := Z12.out; omega))
        have Z13 : Hid (wd12.heap.size ≤ wd13.heap.size) := Lib.hid t.1
        have K0_13 : Hid (BlkL wd13 (w.heap.size) [.slice A0 a0.length ca0, .slice L0 l0.length cl0, .slice D0 d0.length cd0, .slice S0 n0 cs0, .int .i64 c0, .float .f32 hub0, .float .f32 tip0]) := Lib.hid (K0_12.out.turnS t (by intro hh; have h1 := Xx0bd.out.bd hh; have := Z0.out; have := Z1.out; have := Z2.out; have := Z3.out; have := Z4.out; have := Z5.out; have := Z6.out; have := Y6.out; have := Z7.out; have := Z8.out; have := Z9.out; have := Z10.out; have := Z11.out; have := Z12.out; omega))
        have Xc_9 : Hid (OwnO wd13 wd3.heap.size cR1 cg1 (pcL a0 l0 d0 s0 n0 c0 hub0 tip0 u2 u3 u4 a1)) := Lib.hid (Xc_8.out.turnS t (by intro c hc hh; have h1 := Xx0bd.out.bd hh; have h2 := Xcbd.out.bd hc; have := Z0.out; have := Z1.out; have := Z2.out; have := Z3.out; have := Z4.out; have := Z5.out; have := Z6.out; have := Y6.out; have := Z7.out; have := Z8.out; have := Z9.out; have := Z10.out; have := Z11.out; have := Z12.out; omega))
        have V0_7 : Hid (BlkL wd13 (wd5.heap.size) [.slice (some ⟨x01, 0, none⟩) a0.length a0.length, .slice (some ⟨x02, 0, none⟩) l0.length l0.length, .slice (some ⟨x03, 0, none⟩) d0.length d0.length, .slice (some ⟨x04, 0, none⟩) n0 n0, .int .i64 c0, .float .f32 hub0, .float .f32 tip0]) := Lib.hid (V0_6.out.turnS t (by intro hh; have h1 := Xx0bd.out.bd hh; have := Z0.out; have := Z1.out; have := Z2.out; have := Z3.out; have := Z4.out; have := Z5.out; have := Z6.out; have := Y6.out; have := Z7.out; have := Z8.out; have := Z9.out; have := Z10.out; have := Z11.out; have := Z12.out; omega))
        have Xx1_6 : Hid (OwnO wd13 wd6.heap.size (some ⟨x1, 0, none⟩) x1 a1) := Lib.hid (Xx1_5.out.turnS t (by intro c hc hh; have h1 := Xx0bd.out.bd hh; have h2 := Xx1bd.out.bd hc; have := Z0.out; have := Z1.out; have := Z2.out; have := Z3.out; have := Z4.out; have := Z5.out; have := Z6.out; have := Y6.out; have := Z7.out; have := Z8.out; have := Z9.out; have := Z10.out; have := Z11.out; have := Z12.out; omega))
        have Xg_5 : Hid (OwnO wd13 wd7.heap.size gR1 gg1 (pcL a0 l0 d0 s0 n0 c0 hub0 tip0 u2 u3 u4 a1)) := Lib.hid (Xg_4.out.turnS t (by intro c hc hh; have h1 := Xx0bd.out.bd hh; have h2 := Xgbd.out.bd hc; have := Z0.out; have := Z1.out; have := Z2.out; have := Z3.out; have := Z4.out; have := Z5.out; have := Z6.out; have := Y6.out; have := Z7.out; have := Z8.out; have := Z9.out; have := Z10.out; have := Z11.out; have := Z12.out; omega))
        clear K0x0 K0x1 K0x2 K0x3 K0x4 K0x5 K0x6 V0x0 V0x1 V0x2 V0x3 V0x4 V0x5 V0x6
        clear K0_12 Xc_8 V0_6 Xx1_5 Xg_4
        clear t
        have hk0 : (0 : Int) ≤ ((1 : Nat) : Int) + (a0.length : Int) + (l0.length : Int) + (d0.length : Int) + 3 * (n0 : Int) := by omega
        obtain ⟨K0x0, K0x1, K0x2, K0x3, K0x4, K0x5, K0x6⟩ := K0_13.out.sevenT
        obtain ⟨V0x0, V0x1, V0x2, V0x3, V0x4, V0x5, V0x6⟩ := V0_7.out.sevenT
        go_wp2_with fail
        refine (l_markF32 _ _ _ (1 + a0.length + l0.length + d0.length + 3 * n0) a1 _ (Xx1_6.out).a HN1.out (by omega) _ (by omega)).mono ?_
        rintro e wd14 ⟨rfl, -, t⟩
        have B14 : Hid (Below w.heap.size w wd14) := Lib.hid (t.2.2.2 w B13.out (by intro b hh; have h1 := Xx1bd.out.bd hh; have := Z0.out; have := Z1.out; have := Z2.out; have := Z3.out; have := Z4.out; have := Z5.out; have := Z6.out; have := Y6.out; have := Z7.out; have := Z8.out; have := Z9.out; have := Z10.out; have := Z11.out; have := Z12.out; have := Z13.out; omega))
        have Z14 : Hid (wd13.heap.size ≤ wd14.heap.size) := Lib.hid t.1
        have K0_14 : Hid (BlkL wd14 (w.heap.size) [.slice A0 a0.length ca0, .slice L0 l0.length cl0, .slice D0 d0.length cd0, .slice S0 n0 cs0, .int .i64 c0, .float .f32 hub0, .float .f32 tip0]) := Lib.hid (K0_13.out.turnS t (by intro hh; have h1 := Xx1bd.out.bd hh; have := Z0.out; have := Z1.out; have := Z2.out; have := Z3.out; have := Z4.out; have := Z5.out; have := Z6.out; have := Y6.out; have := Z7.out; have := Z8.out; have := Z9.out; have := Z10.out; have := Z11.out; have := Z12.out; have := Z13.out; omega))
        have Xc_10 : Hid (OwnO wd14 wd3.heap.size cR1 cg1 (pcL a0 l0 d0 s0 n0 c0 hub0 tip0 u2 u3 u4 a1)) := Lib.hid (Xc_9.out.turnS t (by intro c hc hh; have h1 := Xx1bd.out.bd hh; have h2 := Xcbd.out.bd hc; have := Z0.out; have := Z1.out; have := Z2.out; have := Z3.out; have := Z4.out; have := Z5.out; have := Z6.out; have := Y6.out; have := Z7.out; have := Z8.out; have := Z9.out; have := Z10.out; have := Z11.out; have := Z12.out; have := Z13.out; omega))
        have V0_8 : Hid (BlkL wd14 (wd5.heap.size) [.slice (some ⟨x01, 0, none⟩) a0.length a0.length, .slice (some ⟨x02, 0, none⟩) l0.length l0.length, .slice (some ⟨x03, 0, none⟩) d0.length d0.length, .slice (some ⟨x04, 0, none⟩) n0 n0, .int .i64 c0, .float .f32 hub0, .float .f32 tip0]) := Lib.hid (V0_7.out.turnS t (by intro hh; have h1 := Xx1bd.out.bd hh; have := Z0.out; have := Z1.out; have := Z2.out; have := Z3.out; have := Z4.out; have := Z5.out; have := Z6.out; have := Y6.out; have := Z7.out; have := Z8.out; have := Z9.out; have := Z10.out; have := Z11.out; have := Z12.out; have := Z13.out; omega))
        have Xg_6 : Hid (OwnO wd14 wd7.heap.size gR1 gg1 (pcL a0 l0 d0 s0 n0 c0 hub0 tip0 u2 u3 u4 a1)) := Lib.hid (Xg_5.out.turnS t (by intro c hc hh; have h1 := Xx1bd.out.bd hh; have h2 := Xgbd.out.bd hc; have := Z0.out; have := Z1.out; have := Z2.out; have := Z3.out; have := Z4.out; have := Z5.out; have := Z6.out; have := Y6.out; have := Z7.out; have := Z8.out; have := Z9.out; have := Z10.out; have := Z11.out; have := Z12.out; have := Z13.out; omega))
        clear K0x0 K0x1 K0x2 K0x3 K0x4 K0x5 K0x6 V0x0 V0x1 V0x2 V0x3 V0x4 V0x5 V0x6
        clear K0_13 Xc_9 V0_7 Xg_5
        clear t
        have hk1 : (0 : Int) ≤ ((1 : Nat) : Int) + (a0.length : Int) + (l0.length : Int) + (d0.length : Int) + 3 * (n0 : Int) + (a1.length : Int) := by omega
        obtain ⟨K0x0, K0x1, K0x2, K0x3, K0x4, K0x5, K0x6⟩ := K0_14.out.sevenT
        obtain ⟨V0x0, V0x1, V0x2, V0x3, V0x4, V0x5, V0x6⟩ := V0_8.out.sevenT
        go_wp2_with fail
        refine (l_eqF32 _ _ _ _ (pcL a0 l0 d0 s0 n0 c0 hub0 tip0 u2 u3 u4 a1) _ Xg_6.out.fl Xc_10.out.fl HF.out).mono ?_
        rintro e wd15 ⟨nq, rfl, hw⟩
        have b : Below wd14.heap.size wd14 wd15 := by rw [hw]; repeat (first | exact Below.refl _ _ | refine below_draws ?_ _)
        clear hw
        have B15 : Hid (Below w.heap.size w wd15) := Lib.hid (below_of B14.out B14.out.size b)
        have Z15 : Hid (wd14.heap.size ≤ wd15.heap.size) := Lib.hid b.size
        have K0_15 : Hid (BlkL wd15 (w.heap.size) [.slice A0 a0.length ca0, .slice L0 l0.length cl0, .slice D0 d0.length cd0, .slice S0 n0 cs0, .int .i64 c0, .float .f32 hub0, .float .f32 tip0]) := Lib.hid (K0_14.out.below b)
        have Xc_11 : Hid (OwnO wd15 wd3.heap.size cR1 cg1 (pcL a0 l0 d0 s0 n0 c0 hub0 tip0 u2 u3 u4 a1)) := Lib.hid (Xc_10.out.below b)
        have V0_9 : Hid (BlkL wd15 (wd5.heap.size) [.slice (some ⟨x01, 0, none⟩) a0.length a0.length, .slice (some ⟨x02, 0, none⟩) l0.length l0.length, .slice (some ⟨x03, 0, none⟩) d0.length d0.length, .slice (some ⟨x04, 0, none⟩) n0 n0, .int .i64 c0, .float .f32 hub0, .float .f32 tip0]) := Lib.hid (V0_8.out.below b)
        have Xg_7 : Hid (OwnO wd15 wd7.heap.size gR1 gg1 (pcL a0 l0 d0 s0 n0 c0 hub0 tip0 u2 u3 u4 a1)) := Lib.hid (Xg_6.out.below b)
        clear K0x0 K0x1 K0x2 K0x3 K0x4 K0x5 K0x6 V0x0 V0x1 V0x2 V0x3 V0x4 V0x5 V0x6
        clear K0_14 Xc_10 V0_8 Xg_6
        clear b
        obtain ⟨K0x0, K0x1, K0x2, K0x3, K0x4, K0x5, K0x6⟩ := K0_15.out.sevenT
        obtain ⟨V0x0, V0x1, V0x2, V0x3, V0x4, V0x5, V0x6⟩ := V0_9.out.sevenT
        go_wp2_with fail
        refine (l_markF32 _ _ _ 1 (pcL a0 l0 d0 s0 n0 c0 hub0 tip0 u2 u3 u4 a1) _ (Xg_7.out).a HF.out (by omega) _ rfl).mono ?_
        rintro e wd16 ⟨rfl, om, t⟩
        have B16 : Hid (Below w.heap.size w wd16) := Lib.hid (t.2.2.2 w B15.out (by intro b hh; have h1 := Xgbd.out.bd hh; have := Z0.out; have := Z1.out; have := Z2.out; have := Z3.out; have := Z4.out; have := Z5.out; have := Z6.out; have := Y6.out; have := Z7.out; have := Z8.out; have := Z9.out; have := Z10.out; have := Z11.out; have := Z12.out; have := Z13.out; have := Z14.out; have := Z15.out; omega))
        have Z16 : Hid (wd15.heap.size ≤ wd16.heap.size) := Lib.hid t.1
        have K0_16 : Hid (BlkL wd16 (w.heap.size) [.slice A0 a0.length ca0, .slice L0 l0.length cl0, .slice D0 d0.length cd0, .slice S0 n0 cs0, .int .i64 c0, .float .f32 hub0, .float .f32 tip0]) := Lib.hid (K0_15.out.turnS t (by intro hh; have h1 := Xgbd.out.bd hh; have := Z0.out; have := Z1.out; have := Z2.out; have := Z3.out; have := Z4.out; have := Z5.out; have := Z6.out; have := Y6.out; have := Z7.out; have := Z8.out; have := Z9.out; have := Z10.out; have := Z11.out; have := Z12.out; have := Z13.out; have := Z14.out; have := Z15.out; omega))
        have Xc_12 : Hid (OwnO wd16 wd3.heap.size cR1 cg1 (pcL a0 l0 d0 s0 n0 c0 hub0 tip0 u2 u3 u4 a1)) := Lib.hid (Xc_11.out.turnS t (by intro c hc hh; have h1 := Xgbd.out.bd hh; have h2 := Xcbd.out.bd hc; have := Z0.out; have := Z1.out; have := Z2.out; have := Z3.out; have := Z4.out; have := Z5.out; have := Z6.out; have := Y6.out; have := Z7.out; have := Z8.out; have := Z9.out; have := Z10.out; have := Z11.out; have := Z12.out; have := Z13.out; have := Z14.out; have := Z15.out; omega))
        have V0_10 : Hid (BlkL wd16 (wd5.heap.size) [.slice (some ⟨x01, 0, none⟩) a0.length a0.length, .slice (some ⟨x02, 0, none⟩) l0.length l0.length, .slice (some ⟨x03, 0, none⟩) d0.length d0.length, .slice (some ⟨x04, 0, none⟩) n0 n0, .int .i64 c0, .float .f32 hub0, .float .f32 tip0]) := Lib.hid (V0_9.out.turnS t (by intro hh; have h1 := Xgbd.out.bd hh; have := Z0.out; have := Z1.out; have := Z2.out; have := Z3.out; have := Z4.out; have := Z5.out; have := Z6.out; have := Y6.out; have := Z7.out; have := Z8.out; have := Z9.out; have := Z10.out; have := Z11.out; have := Z12.out; have := Z13.out; have := Z14.out; have := Z15.out; omega))
        have XM : Hid (OwnO wd16 wd7.heap.size gR1 gg1 (marks 1 (pcL a0 l0 d0 s0 n0 c0 hub0 tip0 u2 u3 u4 a1).length)) := Lib.hid (OwnO.mk' Xg_7.out (marks_length _ _) om)
        clear K0x0 K0x1 K0x2 K0x3 K0x4 K0x5 K0x6 V0x0 V0x1 V0x2 V0x3 V0x4 V0x5 V0x6
        clear K0_15 Xc_11 V0_9
        clear t om
        have hm : (0 : Int) ≤ ((1 : Nat) : Int) + ((pcL a0 l0 d0 s0 n0 c0 hub0 tip0 u2 u3 u4 a1).length : Int) := by omega
        obtain ⟨K0x0, K0x1, K0x2, K0x3, K0x4, K0x5, K0x6⟩ := K0_16.out.sevenT
        obtain ⟨V0x0, V0x1, V0x2, V0x3, V0x4, V0x5, V0x6⟩ := V0_10.out.sevenT
        go_wp2_with fail
        refine (l_heldF32 _ _ _ 1 _ _ (XM.out).a HF.out (by omega) _ rfl).mono ?_
        rintro e wd17 ⟨nq, rfl, hw⟩
        have b : Below wd16.heap.size wd16 wd17 := by rw [hw]; repeat (first | exact Below.refl _ _ | refine below_draws ?_ _)
        clear hw
        have B17 : Hid (Below w.heap.size w wd17) := Lib.hid (below_of B16.out B16.out.size b)
        have Z17 : Hid (wd16.heap.size ≤ wd17.heap.size) := Lib.hid b.size
        have K0_17 : Hid (BlkL wd17 (w.heap.size) [.slice A0 a0.length ca0, .slice L0 l0.length cl0, .slice D0 d0.length cd0, .slice S0 n0 cs0, .int .i64 c0, .float .f32 hub0, .float .f32 tip0]) := Lib.hid (K0_16.out.below b)
        have Xc_13 : Hid (OwnO wd17 wd3.heap.size cR1 cg1 (pcL a0 l0 d0 s0 n0 c0 hub0 tip0 u2 u3 u4 a1)) := Lib.hid (Xc_12.out.below b)
        have V0_11 : Hid (BlkL wd17 (wd5.heap.size) [.slice (some ⟨x01, 0, none⟩) a0.length a0.length, .slice (some ⟨x02, 0, none⟩) l0.length l0.length, .slice (some ⟨x03, 0, none⟩) d0.length d0.length, .slice (some ⟨x04, 0, none⟩) n0 n0, .int .i64 c0, .float .f32 hub0, .float .f32 tip0]) := Lib.hid (V0_10.out.below b)
        have XM_1 : Hid (OwnO wd17 wd7.heap.size gR1 gg1 (marks 1 (pcL a0 l0 d0 s0 n0 c0 hub0 tip0 u2 u3 u4 a1).length)) := Lib.hid (XM.out.below b)
        clear K0x0 K0x1 K0x2 K0x3 K0x4 K0x5 K0x6 V0x0 V0x1 V0x2 V0x3 V0x4 V0x5 V0x6
        clear K0_16 Xc_12 V0_10 XM
        clear b
        obtain ⟨K0x0, K0x1, K0x2, K0x3, K0x4, K0x5, K0x6⟩ := K0_17.out.sevenT
        obtain ⟨V0x0, V0x1, V0x2, V0x3, V0x4, V0x5, V0x6⟩ := V0_11.out.sevenT
        go_wp2_with fail
        refine (l_toRotor A0 L0 D0 S0 ca0 cl0 cd0 n0 cs0 c0 hub0 tip0 a0 l0 d0 s0 _ (HP0.out.below B17.out) HN0.out).mono ?_
        rintro e wd18 ⟨z01, z02, z03, z04, rfl, ho, b⟩
        have B18 : Hid (Below w.heap.size w wd18) := Lib.hid (below_of B17.out B17.out.size b)
        have Z18 : Hid (wd17.heap.size ≤ wd18.heap.size) := Lib.hid b.size
        have K0_18 : Hid (BlkL wd18 (w.heap.size) [.slice A0 a0.length ca0, .slice L0 l0.length cl0, .slice D0 d0.length cd0, .slice S0 n0 cs0, .int .i64 c0, .float .f32 hub0, .float .f32 tip0]) := Lib.hid (K0_17.out.below b)
        have Xc_14 : Hid (OwnO wd18 wd3.heap.size cR1 cg1 (pcL a0 l0 d0 s0 n0 c0 hub0 tip0 u2 u3 u4 a1)) := Lib.hid (Xc_13.out.below b)
        have V0_12 : Hid (BlkL wd18 (wd5.heap.size) [.slice (some ⟨x01, 0, none⟩) a0.length a0.length, .slice (some ⟨x02, 0, none⟩) l0.length l0.length, .slice (some ⟨x03, 0, none⟩) d0.length d0.length, .slice (some ⟨x04, 0, none⟩) n0 n0, .int .i64 c0, .float .f32 hub0, .float .f32 tip0]) := Lib.hid (V0_11.out.below b)
        have XM_2 : Hid (OwnO wd18 wd7.heap.size gR1 gg1 (marks 1 (pcL a0 l0 d0 s0 n0 c0 hub0 tip0 u2 u3 u4 a1).length)) := Lib.hid (XM_1.out.below b)
        clear K0x0 K0x1 K0x2 K0x3 K0x4 K0x5 K0x6 V0x0 V0x1 V0x2 V0x3 V0x4 V0x5 V0x6
        clear K0_17 Xc_13 V0_11 XM_1
        have Xz0 : Hid (OwnT wd18 wd17.heap.size (some ⟨z01, 0, none⟩) (some ⟨z02, 0, none⟩) (some ⟨z03, 0, none⟩) (some ⟨z04, 0, none⟩) z01 z02 z03 z04 a0 l0 d0 s0) := Lib.hid (OwnR.t ho)
        have Xz0bd := Xz0
        clear ho b
        obtain ⟨K0x0, K0x1, K0x2, K0x3, K0x4, K0x5, K0x6⟩ := K0_18.out.sevenT
        obtain ⟨V0x0, V0x1, V0x2, V0x3, V0x4, V0x5, V0x6⟩ := V0_12.out.sevenT
        go_wp2_with fail
        refine (l_toF32N A1 cap1 a1 _ (HP1.out.below B18.out) HN1.out).mono ?_
        rintro e wd19 ⟨rfl, ho, b⟩
        obtain ⟨z1, hz1⟩ : ∃ x, x = wd18.heap.size := ⟨_, rfl⟩
        rw [← hz1] at ho
        rw [← hz1]
        have B19 : Hid (Below w.heap.size w wd19) := Lib.hid (below_of B18.out B18.out.size b)
        have Z19 : Hid (wd18.heap.size ≤ wd19.heap.size) := Lib.hid b.size
        have K0_19 : Hid (BlkL wd19 (w.heap.size) [.slice A0 a0.length ca0, .slice L0 l0.length cl0, .slice D0 d0.length cd0, .slice S0 n0 cs0, .int .i64 c0, .float .f32 hub0, .float .f32 tip0]) := Lib.hid (K0_18.out.below b)
        have Xc_15 : Hid (OwnO wd19 wd3.heap.size cR1 cg1 (pcL a0 l0 d0 s0 n0 c0 hub0 tip0 u2 u3 u4 a1)) := Lib.hid (Xc_14.out.below b)
        have V0_13 : Hid (BlkL wd19 (wd5.heap.size) [.slice (some ⟨x01, 0, none⟩) a0.length a0.length, .slice (some ⟨x02, 0, none⟩) l0.length l0.length, .slice (some ⟨x03, 0, none⟩) d0.length d0.length, .slice (some ⟨x04, 0, none⟩) n0 n0, .int .i64 c0, .float .f32 hub0, .float .f32 tip0]) := Lib.hid (V0_12.out.below b)
        have XM_3 : Hid (OwnO wd19 wd7.heap.size gR1 gg1 (marks 1 (pcL a0 l0 d0 s0 n0 c0 hub0 tip0 u2 u3 u4 a1).length)) := Lib.hid (XM_2.out.below b)
        have Xz0_1 : Hid (OwnT wd19 wd17.heap.size (some ⟨z01, 0, none⟩) (some ⟨z02, 0, none⟩) (some ⟨z03, 0, none⟩) (some ⟨z04, 0, none⟩) z01 z02 z03 z04 a0 l0 d0 s0) := Lib.hid (Xz0.out.below b)
        clear K0x0 K0x1 K0x2 K0x3 K0x4 K0x5 K0x6 V0x0 V0x1 V0x2 V0x3 V0x4 V0x5 V0x6
        clear K0_18 Xc_14 V0_12 XM_2 Xz0
        have Xz1 : Hid (OwnO wd19 wd18.heap.size (some ⟨z1, 0, none⟩) z1 a1) := Lib.hid (Own.o ho (by omega))
        have Xz1bd := Xz1
        clear ho b hz1
        obtain ⟨K0x0, K0x1, K0x2, K0x3, K0x4, K0x5, K0x6⟩ := K0_19.out.sevenT
        obtain ⟨V0x0, V0x1, V0x2, V0x3, V0x4, V0x5, V0x6⟩ := V0_13.out.sevenT
        go_wp2_with fail
        refine (i_PowerCurve _ _ _ _ _ _ _ _ _ _ _ _ a0 l0 d0 s0 u2 u3 u4 _ _ a1 _ Xz0_1.out.rt HN0.out (Nat.le_refl _) Xz1.out.fl HN1.out).mono ?_
        rintro e wd20 ⟨hR1, hc1, hg1, rfl, ho, b⟩
        have B20 : Hid (Below w.heap.size w wd20) := Lib.hid (below_of B19.out B19.out.size b)
        have Z20 : Hid (wd19.heap.size ≤ wd20.heap.size) := Lib.hid b.size
        have K0_20 : Hid (BlkL wd20 (w.heap.size) [.slice A0 a0.length ca0, .slice L0 l0.length cl0, .slice D0 d0.length cd0, .slice S0 n0 cs0, .int .i64 c0, .float .f32 hub0, .float .f32 tip0]) := Lib.hid (K0_19.out.below b)
        have Xc_16 : Hid (OwnO wd20 wd3.heap.size cR1 cg1 (pcL a0 l0 d0 s0 n0 c0 hub0 tip0 u2 u3 u4 a1)) := Lib.hid (Xc_15.out.below b)
        have V0_14 : Hid (BlkL wd20 (wd5.heap.size) [.slice (some ⟨x01, 0, none⟩) a0.length a0.length, .slice (some ⟨x02, 0, none⟩) l0.length l0.length, .slice (some ⟨x03, 0, none⟩) d0.length d0.length, .slice (some ⟨x04, 0, none⟩) n0 n0, .int .i64 c0, .float .f32 hub0, .float .f32 tip0]) := Lib.hid (V0_13.out.below b)
        have XM_4 : Hid (OwnO wd20 wd7.heap.size gR1 gg1 (marks 1 (pcL a0 l0 d0 s0 n0 c0 hub0 tip0 u2 u3 u4 a1).length)) := Lib.hid (XM_3.out.below b)
        have Xz0_2 : Hid (OwnT wd20 wd17.heap.size (some ⟨z01, 0, none⟩) (some ⟨z02, 0, none⟩) (some ⟨z03, 0, none⟩) (some ⟨z04, 0, none⟩) z01 z02 z03 z04 a0 l0 d0 s0) := Lib.hid (Xz0_1.out.below b)
        have Xz1_1 : Hid (OwnO wd20 wd18.heap.size (some ⟨z1, 0, none⟩) z1 a1) := Lib.hid (Xz1.out.below b)
        clear K0x0 K0x1 K0x2 K0x3 K0x4 K0x5 K0x6 V0x0 V0x1 V0x2 V0x3 V0x4 V0x5 V0x6
        clear K0_19 Xc_15 V0_13 XM_3 Xz0_1 Xz1
        have Xh : Hid (OwnO wd20 wd19.heap.size hR1 hg1 (pcL a0 l0 d0 s0 n0 c0 hub0 tip0 u2 u3 u4 a1)) := Lib.hid (ho)
        have Xhbd := Xh
        clear ho
        clear b
        obtain ⟨K0x0, K0x1, K0x2, K0x3, K0x4, K0x5, K0x6⟩ := K0_20.out.sevenT
        obtain ⟨V0x0, V0x1, V0x2, V0x3, V0x4, V0x5, V0x6⟩ := V0_14.out.sevenT
        go_wp2_with fail
        refine (l_eqF32 _ _ _ _ (pcL a0 l0 d0 s0 n0 c0 hub0 tip0 u2 u3 u4 a1) _ Xh.out.fl Xc_16.out.fl HF.out).mono ?_
        rintro e wd21 ⟨nq, rfl, hw⟩
        have b : Below wd20.heap.size wd20 wd21 := by rw [hw]; repeat (first | exact Below.refl _ _ | refine below_draws ?_ _)
        clear hw
        have B21 : Hid (Below w.heap.size w wd21) := Lib.hid (below_of B20.out B20.out.size b)
        have Z21 : Hid (wd20.heap.size ≤ wd21.heap.size) := Lib.hid b.size
        have K0_21 : Hid (BlkL wd21 (w.heap.size) [.slice A0 a0.length ca0, .slice L0 l0.length cl0, .slice D0 d0.length cd0, .slice S0 n0 cs0, .int .i64 c0, .float .f32 hub0, .float .f32 tip0]) := Lib.hid (K0_20.out.below b)
        have Xc_17 : Hid (OwnO wd21 wd3.heap.size cR1 cg1 (pcL a0 l0 d0 s0 n0 c0 hub0 tip0 u2 u3 u4 a1)) := Lib.hid (Xc_16.out.below b)
        have V0_15 : Hid (BlkL wd21 (wd5.heap.size) [.slice (some ⟨x01, 0, none⟩) a0.length a0.length, .slice (some ⟨x02, 0, none⟩) l0.length l0.length, .slice (some ⟨x03, 0, none⟩) d0.length d0.length, .slice (some ⟨x04, 0, none⟩) n0 n0, .int .i64 c0, .float .f32 hub0, .float .f32 tip0]) := Lib.hid (V0_14.out.below b)
        have XM_5 : Hid (OwnO wd21 wd7.heap.size gR1 gg1 (marks 1 (pcL a0 l0 d0 s0 n0 c0 hub0 tip0 u2 u3 u4 a1).length)) := Lib.hid (XM_4.out.below b)
        have Xh_1 : Hid (OwnO wd21 wd19.heap.size hR1 hg1 (pcL a0 l0 d0 s0 n0 c0 hub0 tip0 u2 u3 u4 a1)) := Lib.hid (Xh.out.below b)
        clear K0x0 K0x1 K0x2 K0x3 K0x4 K0x5 K0x6 V0x0 V0x1 V0x2 V0x3 V0x4 V0x5 V0x6
        clear K0_20 Xc_16 V0_14 XM_4 Xh
        clear b
        obtain ⟨K0x0, K0x1, K0x2, K0x3, K0x4, K0x5, K0x6⟩ := K0_21.out.sevenT
        obtain ⟨V0x0, V0x1, V0x2, V0x3, V0x4, V0x5, V0x6⟩ := V0_15.out.sevenT
        go_wp2_with fail
        refine (l_heldF32 _ _ _ 1 _ _ (XM_5.out).a HF.out (by omega) _ rfl).mono ?_
        rintro e wd22 ⟨nq, rfl, hw⟩
        have b : Below wd21.heap.size wd21 wd22 := by rw [hw]; repeat (first | exact Below.refl _ _ | refine below_draws ?_ _)
        clear hw
        have B22 : Hid (Below w.heap.size w wd22) := Lib.hid (below_of B21.out B21.out.size b)
        have Z22 : Hid (wd21.heap.size ≤ wd22.heap.size) := Lib.hid b.size
        have K0_22 : Hid (BlkL wd22 (w.heap.size) [.slice A0 a0.length ca0, .slice L0 l0.length cl0, .slice D0 d0.length cd0, .slice S0 n0 cs0, .int .i64 c0, .float .f32 hub0, .float .f32 tip0]) := Lib.hid (K0_21.out.below b)
        have Xc_18 : Hid (OwnO wd22 wd3.heap.size cR1 cg1 (pcL a0 l0 d0 s0 n0 c0 hub0 tip0 u2 u3 u4 a1)) := Lib.hid (Xc_17.out.below b)
        have V0_16 : Hid (BlkL wd22 (wd5.heap.size) [.slice (some ⟨x01, 0, none⟩) a0.length a0.length, .slice (some ⟨x02, 0, none⟩) l0.length l0.length, .slice (some ⟨x03, 0, none⟩) d0.length d0.length, .slice (some ⟨x04, 0, none⟩) n0 n0, .int .i64 c0, .float .f32 hub0, .float .f32 tip0]) := Lib.hid (V0_15.out.below b)
        have XM_6 : Hid (OwnO wd22 wd7.heap.size gR1 gg1 (marks 1 (pcL a0 l0 d0 s0 n0 c0 hub0 tip0 u2 u3 u4 a1).length)) := Lib.hid (XM_5.out.below b)
        have Xh_2 : Hid (OwnO wd22 wd19.heap.size hR1 hg1 (pcL a0 l0 d0 s0 n0 c0 hub0 tip0 u2 u3 u4 a1)) := Lib.hid (Xh_1.out.below b)
        clear K0x0 K0x1 K0x2 K0x3 K0x4 K0x5 K0x6 V0x0 V0x1 V0x2 V0x3 V0x4 V0x5 V0x6
        clear K0_21 Xc_17 V0_15 XM_5 Xh_1
        clear b
        obtain ⟨K0x0, K0x1, K0x2, K0x3, K0x4, K0x5, K0x6⟩ := K0_22.out.sevenT
        obtain ⟨V0x0, V0x1, V0x2, V0x3, V0x4, V0x5, V0x6⟩ := V0_16.out.sevenT
        go_wp2
        go_ret
        exact ⟨rfl, B22.out⟩
    · skip
      obtain ⟨w0, hw0⟩ : ∃ x, x = (w.alloc (.cells #[.slice A0 a0.length ca0, .slice L0 l0.length cl0, .slice D0 d0.length cd0, .slice S0 n0 cs0, .int .i64 c0, .float .f32 hub0, .float .f32 tip0] 28)) := ⟨_, rfl⟩
      have B0 : Hid (Below w.heap.size w w0) := Lib.hid (by rw [hw0]; exact (Below.refl _ _).alloc (Nat.le_refl _) _)
      have Z0 : Hid (w0.heap.size = w.heap.size + 1) := Lib.hid (by rw [hw0]; simp)
      have K0 : Hid (BlkL w0 (w.heap.size) [.slice A0 a0.length ca0, .slice L0 l0.length cl0, .slice D0 d0.length cd0, .slice S0 n0 cs0, .int .i64 c0, .float .f32 hub0, .float .f32 tip0]) := Lib.hid (by rw [hw0]; exact blkL_at w #[.slice A0 a0.length ca0, .slice L0 l0.length cl0, .slice D0 d0.length cd0, .slice S0 n0 cs0, .int .i64 c0, .float .f32 hub0, .float .f32 tip0] 28 rfl)
      go_enter Tryz.func8, Tryz.ntmps8
      go_wp2_with fail
      rw [← hw0]
      clear hw0
      obtain ⟨K0x0, K0x1, K0x2, K0x3, K0x4, K0x5, K0x6⟩ := K0.out.sevenT
      go_wp2_with fail
      refine (l_szRotor_no A0 L0 D0 S0 _ ca0 _ cl0 _ cd0 n0 cs0 c0 hub0 tip0 _ _ (by omega) (by omega) (by omega) ma0 ml0 md0 ms0).mono ?_
      rintro e wd1 ⟨rfl, b⟩
      have B1 : Hid (Below w.heap.size w wd1) := Lib.hid (below_of B0.out B0.out.size b)
      have Z1 : Hid (w0.heap.size ≤ wd1.heap.size) := Lib.hid b.size
      have K0_1 : Hid (BlkL wd1 (w.heap.size) [.slice A0 a0.length ca0, .slice L0 l0.length cl0, .slice D0 d0.length cd0, .slice S0 n0 cs0, .int .i64 c0, .float .f32 hub0, .float .f32 tip0]) := Lib.hid (K0.out.below b)
      clear K0x0 K0x1 K0x2 K0x3 K0x4 K0x5 K0x6
      clear K0
      clear b
      obtain ⟨K0x0, K0x1, K0x2, K0x3, K0x4, K0x5, K0x6⟩ := K0_1.out.sevenT
      go_wp2
      go_ret
      exact ⟨rfl, B1.out⟩
  · skip
    go_enter Tryz.func8, Tryz.ntmps8
    go_wp2
    go_ret
    exact ⟨rfl, by first | exact Below.refl _ _ | exact (Below.refl _ _).alloc (Nat.le_refl _) _⟩
end Go.Proofs.YtahbcpjipomcgaaGreat

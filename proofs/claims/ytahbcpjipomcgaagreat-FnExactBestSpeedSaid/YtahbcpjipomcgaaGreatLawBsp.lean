/- The law FnExactBestSpeed. No statement is proved here. -/
import Derived.Test.YtahbcpjipomcgaaGreatMgPw
import Derived.Test.YtahbcpjipomcgaaGreatMkS
import Derived.Test.YtahbcpjipomcgaaGreatRotL
namespace Go.Proofs.YtahbcpjipomcgaaGreat
open Go Go.RowKit
set_option maxHeartbeats 16000000 in
set_option maxRecDepth 100000 in
theorem law_FnExactBestSpeed (A0 L0 D0 S0 : Option Addr) (ca0 cl0 cd0 n0 cs0 : Nat) (c0 : Int) (hub0 tip0 : Nat) (a0 l0 d0 s0 : List Nat) (u1 : Nat) (A2 : Option Addr) (cap2 : Nat) (a2 : List Nat) (u3 : Nat) (u4 : Nat) (w : World) (h0 : Rt w A0 L0 D0 S0 a0 l0 d0 s0) (hs0 : s0.length = n0 * 3) (ma0 : a0.length ≤ 9223372036854775807) (ml0 : l0.length ≤ 9223372036854775807) (md0 : d0.length ≤ 9223372036854775807) (ms0 : n0 ≤ 9223372036854775807) (_hu1 : u1 < words .f32) (h2 : Fl w A2 a2) (ma2 : a2.length ≤ 9223372036854775807) (_hu3 : u3 < words .f32) (_hu4 : u4 < words .f32) :
    Calls Tryz.prog 10 #[.agg #[.slice A0 a0.length ca0, .slice L0 l0.length cl0, .slice D0 d0.length cd0, .slice S0 n0 cs0, .int .i64 c0, .float .f32 hub0, .float .f32 tip0], .float .f32 u1, .slice A2 a2.length cap2, .float .f32 u3, .float .f32 u4] w fun e w' => e = .returned (.bool true) ∧ Below w.heap.size w w' := by
  have HP0 := Lib.hid h0
  clear h0
  have HSL0 := Lib.hid hs0
  clear hs0
  have HP2 := Lib.hid h2
  clear h2
  by_cases hn0 : a2.length ≤ 1048576
  · skip
    by_cases hn1 : a0.length + l0.length + d0.length + n0 ≤ 1048576
    · skip
      have HN2 : Hid (a2.length ≤ 1048576) := Lib.hid (by omega)
      have HN0 : Hid (FewR a0 l0 d0 s0 n0) := Lib.hid (by have := HSL0.out; unfold FewR; omega)
      obtain ⟨w0, hw0⟩ : ∃ x, x = (w.alloc (.cells #[.slice A0 a0.length ca0, .slice L0 l0.length cl0, .slice D0 d0.length cd0, .slice S0 n0 cs0, .int .i64 c0, .float .f32 hub0, .float .f32 tip0] 28)) := ⟨_, rfl⟩
      have B0 : Hid (Below w.heap.size w w0) := Lib.hid (by rw [hw0]; exact (Below.refl _ _).alloc (Nat.le_refl _) _)
      have Z0 : Hid (w0.heap.size = w.heap.size + 1) := Lib.hid (by rw [hw0]; simp)
      have K0 : Hid (BlkL w0 (w.heap.size) [.slice A0 a0.length ca0, .slice L0 l0.length cl0, .slice D0 d0.length cd0, .slice S0 n0 cs0, .int .i64 c0, .float .f32 hub0, .float .f32 tip0]) := Lib.hid (by rw [hw0]; exact blkL_at w #[.slice A0 a0.length ca0, .slice L0 l0.length cl0, .slice D0 d0.length cd0, .slice S0 n0 cs0, .int .i64 c0, .float .f32 hub0, .float .f32 tip0] 28 rfl)
      go_enter Tryz.func10, Tryz.ntmps10
      go_wp2_with fail
      rw [← hw0]
      clear hw0
      have hq0 : (0 : Int) ≤ 1048576 - (a0.length : Int) - (l0.length : Int) - (d0.length : Int) - (n0 : Int) := by omega
      obtain ⟨K0x0, K0x1, K0x2, K0x3, K0x4, K0x5, K0x6⟩ := K0.out.sevenT
      go_wp2_with fail
      refine (l_szRotor_yes A0 L0 D0 S0 _ ca0 _ cl0 _ cd0 n0 cs0 c0 hub0 tip0 _ _ (by omega) (by omega)).mono ?_
      rintro e wd1 ⟨rfl, b⟩
      have B1 : Hid (Below w.heap.size w wd1) := Lib.hid (below_of B0.out B0.out.size b)
      have Z1 : Hid (w0.heap.size ≤ wd1.heap.size) := Lib.hid b.size
      have K0_1 : Hid (BlkL wd1 (w.heap.size) [.slice A0 a0.length ca0, .slice L0 l0.length cl0, .slice D0 d0.length cd0, .slice S0 n0 cs0, .int .i64 c0, .float .f32 hub0, .float .f32 tip0]) := Lib.hid (K0.out.below b)
      clear K0x0 K0x1 K0x2 K0x3 K0x4 K0x5 K0x6
      clear K0
      clear b
      obtain ⟨K0x0, K0x1, K0x2, K0x3, K0x4, K0x5, K0x6⟩ := K0_1.out.sevenT
      go_wp2_with fail
      refine (l_toRotor A0 L0 D0 S0 ca0 cl0 cd0 n0 cs0 c0 hub0 tip0 a0 l0 d0 s0 _ (HP0.out.below B1.out) HN0.out).mono ?_
      rintro e wd2 ⟨p01, p02, p03, p04, rfl, ho, b⟩
      have B2 : Hid (Below w.heap.size w wd2) := Lib.hid (below_of B1.out B1.out.size b)
      have Z2 : Hid (wd1.heap.size ≤ wd2.heap.size) := Lib.hid b.size
      have K0_2 : Hid (BlkL wd2 (w.heap.size) [.slice A0 a0.length ca0, .slice L0 l0.length cl0, .slice D0 d0.length cd0, .slice S0 n0 cs0, .int .i64 c0, .float .f32 hub0, .float .f32 tip0]) := Lib.hid (K0_1.out.below b)
      clear K0x0 K0x1 K0x2 K0x3 K0x4 K0x5 K0x6
      clear K0_1
      have Xp0 : Hid (OwnT wd2 wd1.heap.size (some ⟨p01, 0, none⟩) (some ⟨p02, 0, none⟩) (some ⟨p03, 0, none⟩) (some ⟨p04, 0, none⟩) p01 p02 p03 p04 a0 l0 d0 s0) := Lib.hid (OwnR.t ho)
      have Xp0bd := Xp0
      clear ho b
      obtain ⟨K0x0, K0x1, K0x2, K0x3, K0x4, K0x5, K0x6⟩ := K0_2.out.sevenT
      go_wp2_with fail
      refine (l_toF32N A2 cap2 a2 _ (HP2.out.below B2.out) HN2.out).mono ?_
      rintro e wd3 ⟨rfl, ho, b⟩
      obtain ⟨p2, hp2⟩ : ∃ x, x = wd2.heap.size := ⟨_, rfl⟩
      rw [← hp2] at ho
      rw [← hp2]
      have B3 : Hid (Below w.heap.size w wd3) := Lib.hid (below_of B2.out B2.out.size b)
      have Z3 : Hid (wd2.heap.size ≤ wd3.heap.size) := Lib.hid b.size
      have K0_3 : Hid (BlkL wd3 (w.heap.size) [.slice A0 a0.length ca0, .slice L0 l0.length cl0, .slice D0 d0.length cd0, .slice S0 n0 cs0, .int .i64 c0, .float .f32 hub0, .float .f32 tip0]) := Lib.hid (K0_2.out.below b)
      have Xp0_1 : Hid (OwnT wd3 wd1.heap.size (some ⟨p01, 0, none⟩) (some ⟨p02, 0, none⟩) (some ⟨p03, 0, none⟩) (some ⟨p04, 0, none⟩) p01 p02 p03 p04 a0 l0 d0 s0) := Lib.hid (Xp0.out.below b)
      clear K0x0 K0x1 K0x2 K0x3 K0x4 K0x5 K0x6
      clear K0_2 Xp0
      have Xp2 : Hid (OwnO wd3 wd2.heap.size (some ⟨p2, 0, none⟩) p2 a2) := Lib.hid (Own.o ho (by omega))
      have Xp2bd := Xp2
      clear ho b hp2
      obtain ⟨K0x0, K0x1, K0x2, K0x3, K0x4, K0x5, K0x6⟩ := K0_3.out.sevenT
      go_wp2_with fail
      refine (s_BestSpeed _ _ _ _ _ _ _ _ _ _ _ _ a0 l0 d0 s0 u1 u3 u4 _ _ a2 _ Xp0_1.out.rt HN0.out Xp2.out.fl).mono ?_
      rintro e wd4 ⟨cr0, rfl, ch0, b⟩
      have B4 : Hid (Below w.heap.size w wd4) := Lib.hid (below_of B3.out B3.out.size b)
      have Z4 : Hid (wd3.heap.size ≤ wd4.heap.size) := Lib.hid b.size
      have K0_4 : Hid (BlkL wd4 (w.heap.size) [.slice A0 a0.length ca0, .slice L0 l0.length cl0, .slice D0 d0.length cd0, .slice S0 n0 cs0, .int .i64 c0, .float .f32 hub0, .float .f32 tip0]) := Lib.hid (K0_3.out.below b)
      have Xp0_2 : Hid (OwnT wd4 wd1.heap.size (some ⟨p01, 0, none⟩) (some ⟨p02, 0, none⟩) (some ⟨p03, 0, none⟩) (some ⟨p04, 0, none⟩) p01 p02 p03 p04 a0 l0 d0 s0) := Lib.hid (Xp0_1.out.below b)
      have Xp2_1 : Hid (OwnO wd4 wd2.heap.size (some ⟨p2, 0, none⟩) p2 a2) := Lib.hid (Xp2.out.below b)
      clear K0x0 K0x1 K0x2 K0x3 K0x4 K0x5 K0x6
      clear K0_3 Xp0_1 Xp2
      clear b
      have C0 := Lib.hid ch0
      clear ch0
      obtain ⟨K0x0, K0x1, K0x2, K0x3, K0x4, K0x5, K0x6⟩ := K0_4.out.sevenT
      go_wp2_with fail
      refine (l_toRotor A0 L0 D0 S0 ca0 cl0 cd0 n0 cs0 c0 hub0 tip0 a0 l0 d0 s0 _ (HP0.out.below B4.out) HN0.out).mono ?_
      rintro e wd5 ⟨x01, x02, x03, x04, rfl, ho, b⟩
      have B5 : Hid (Below w.heap.size w wd5) := Lib.hid (below_of B4.out B4.out.size b)
      have Z5 : Hid (wd4.heap.size ≤ wd5.heap.size) := Lib.hid b.size
      have K0_5 : Hid (BlkL wd5 (w.heap.size) [.slice A0 a0.length ca0, .slice L0 l0.length cl0, .slice D0 d0.length cd0, .slice S0 n0 cs0, .int .i64 c0, .float .f32 hub0, .float .f32 tip0]) := Lib.hid (K0_4.out.below b)
      clear K0x0 K0x1 K0x2 K0x3 K0x4 K0x5 K0x6
      clear K0_4
      have Xx0 : Hid (OwnT wd5 wd4.heap.size (some ⟨x01, 0, none⟩) (some ⟨x02, 0, none⟩) (some ⟨x03, 0, none⟩) (some ⟨x04, 0, none⟩) x01 x02 x03 x04 a0 l0 d0 s0) := Lib.hid (OwnR.t ho)
      have Xx0bd := Xx0
      clear ho b
      obtain ⟨wd6, hw6⟩ : ∃ x, x = wd5.alloc (.cells #[.slice (some ⟨x01, 0, none⟩) a0.length a0.length, .slice (some ⟨x02, 0, none⟩) l0.length l0.length, .slice (some ⟨x03, 0, none⟩) d0.length d0.length, .slice (some ⟨x04, 0, none⟩) n0 n0, .int .i64 c0, .float .f32 hub0, .float .f32 tip0] 35) := ⟨_, rfl⟩
      have b : Below wd5.heap.size wd5 wd6 := by rw [hw6]; exact (Below.refl _ _).alloc (Nat.le_refl _) _
      have Y6 : Hid (wd5.heap.size + 1 ≤ wd6.heap.size) := Lib.hid (by rw [hw6]; simp)
      have B6 : Hid (Below w.heap.size w wd6) := Lib.hid (below_of B5.out B5.out.size b)
      have Z6 : Hid (wd5.heap.size ≤ wd6.heap.size) := Lib.hid b.size
      have K0_6 : Hid (BlkL wd6 (w.heap.size) [.slice A0 a0.length ca0, .slice L0 l0.length cl0, .slice D0 d0.length cd0, .slice S0 n0 cs0, .int .i64 c0, .float .f32 hub0, .float .f32 tip0]) := Lib.hid (K0_5.out.below b)
      have Xx0_1 : Hid (OwnT wd6 wd4.heap.size (some ⟨x01, 0, none⟩) (some ⟨x02, 0, none⟩) (some ⟨x03, 0, none⟩) (some ⟨x04, 0, none⟩) x01 x02 x03 x04 a0 l0 d0 s0) := Lib.hid (Xx0.out.below b)
      have V0 : Hid (BlkL wd6 (wd5.heap.size) [.slice (some ⟨x01, 0, none⟩) a0.length a0.length, .slice (some ⟨x02, 0, none⟩) l0.length l0.length, .slice (some ⟨x03, 0, none⟩) d0.length d0.length, .slice (some ⟨x04, 0, none⟩) n0 n0, .int .i64 c0, .float .f32 hub0, .float .f32 tip0]) := Lib.hid (by rw [hw6]; exact blkL_at wd5 #[.slice (some ⟨x01, 0, none⟩) a0.length a0.length, .slice (some ⟨x02, 0, none⟩) l0.length l0.length, .slice (some ⟨x03, 0, none⟩) d0.length d0.length, .slice (some ⟨x04, 0, none⟩) n0 n0, .int .i64 c0, .float .f32 hub0, .float .f32 tip0] 35 rfl)
      clear b
      have K0y0 := fun o => ((K0_5.out.alloc o).2 0 _ rfl).1
      have K0y1 := fun o => ((K0_5.out.alloc o).2 1 _ rfl).1
      have K0y2 := fun o => ((K0_5.out.alloc o).2 2 _ rfl).1
      have K0y3 := fun o => ((K0_5.out.alloc o).2 3 _ rfl).1
      have K0y4 := fun o => ((K0_5.out.alloc o).2 4 _ rfl).1
      have K0y5 := fun o => ((K0_5.out.alloc o).2 5 _ rfl).1
      have K0y6 := fun o => ((K0_5.out.alloc o).2 6 _ rfl).1
      go_wp2_with fail
      rw [← hw6]
      clear hw6
      clear K0y0 K0y1 K0y2 K0y3 K0y4 K0y5 K0y6
      clear K0_5 Xx0
      obtain ⟨K0x0, K0x1, K0x2, K0x3, K0x4, K0x5, K0x6⟩ := K0_6.out.sevenT
      obtain ⟨V0x0, V0x1, V0x2, V0x3, V0x4, V0x5, V0x6⟩ := V0.out.sevenT
      go_wp2_with fail
      refine (l_toF32N A2 cap2 a2 _ (HP2.out.below B6.out) HN2.out).mono ?_
      rintro e wd7 ⟨rfl, ho, b⟩
      obtain ⟨x2, hx2⟩ : ∃ x, x = wd6.heap.size := ⟨_, rfl⟩
      rw [← hx2] at ho
      rw [← hx2]
      have B7 : Hid (Below w.heap.size w wd7) := Lib.hid (below_of B6.out B6.out.size b)
      have Z7 : Hid (wd6.heap.size ≤ wd7.heap.size) := Lib.hid b.size
      have K0_7 : Hid (BlkL wd7 (w.heap.size) [.slice A0 a0.length ca0, .slice L0 l0.length cl0, .slice D0 d0.length cd0, .slice S0 n0 cs0, .int .i64 c0, .float .f32 hub0, .float .f32 tip0]) := Lib.hid (K0_6.out.below b)
      have Xx0_2 : Hid (OwnT wd7 wd4.heap.size (some ⟨x01, 0, none⟩) (some ⟨x02, 0, none⟩) (some ⟨x03, 0, none⟩) (some ⟨x04, 0, none⟩) x01 x02 x03 x04 a0 l0 d0 s0) := Lib.hid (Xx0_1.out.below b)
      have V0_1 : Hid (BlkL wd7 (wd5.heap.size) [.slice (some ⟨x01, 0, none⟩) a0.length a0.length, .slice (some ⟨x02, 0, none⟩) l0.length l0.length, .slice (some ⟨x03, 0, none⟩) d0.length d0.length, .slice (some ⟨x04, 0, none⟩) n0 n0, .int .i64 c0, .float .f32 hub0, .float .f32 tip0]) := Lib.hid (V0.out.below b)
      clear K0x0 K0x1 K0x2 K0x3 K0x4 K0x5 K0x6 V0x0 V0x1 V0x2 V0x3 V0x4 V0x5 V0x6
      clear K0_6 Xx0_1 V0
      have Xx2 : Hid (OwnO wd7 wd6.heap.size (some ⟨x2, 0, none⟩) x2 a2) := Lib.hid (Own.o ho (by omega))
      have Xx2bd := Xx2
      clear ho b hx2
      obtain ⟨K0x0, K0x1, K0x2, K0x3, K0x4, K0x5, K0x6⟩ := K0_7.out.sevenT
      obtain ⟨V0x0, V0x1, V0x2, V0x3, V0x4, V0x5, V0x6⟩ := V0_1.out.sevenT
      go_wp2_with fail
      refine (i_BestSpeed _ _ _ _ _ _ _ _ _ _ _ _ a0 l0 d0 s0 u1 u3 u4 _ _ a2 _ Xx0_2.out.rt HN0.out (Nat.le_refl _) Xx2.out.fl HN2.out).mono ?_
      rintro e wd8 ⟨gr0, rfl, gh0, b⟩
      have B8 : Hid (Below w.heap.size w wd8) := Lib.hid (below_of B7.out B7.out.size b)
      have Z8 : Hid (wd7.heap.size ≤ wd8.heap.size) := Lib.hid b.size
      have K0_8 : Hid (BlkL wd8 (w.heap.size) [.slice A0 a0.length ca0, .slice L0 l0.length cl0, .slice D0 d0.length cd0, .slice S0 n0 cs0, .int .i64 c0, .float .f32 hub0, .float .f32 tip0]) := Lib.hid (K0_7.out.below b)
      have Xx0_3 : Hid (OwnT wd8 wd4.heap.size (some ⟨x01, 0, none⟩) (some ⟨x02, 0, none⟩) (some ⟨x03, 0, none⟩) (some ⟨x04, 0, none⟩) x01 x02 x03 x04 a0 l0 d0 s0) := Lib.hid (Xx0_2.out.below b)
      have V0_2 : Hid (BlkL wd8 (wd5.heap.size) [.slice (some ⟨x01, 0, none⟩) a0.length a0.length, .slice (some ⟨x02, 0, none⟩) l0.length l0.length, .slice (some ⟨x03, 0, none⟩) d0.length d0.length, .slice (some ⟨x04, 0, none⟩) n0 n0, .int .i64 c0, .float .f32 hub0, .float .f32 tip0]) := Lib.hid (V0_1.out.below b)
      have Xx2_1 : Hid (OwnO wd8 wd6.heap.size (some ⟨x2, 0, none⟩) x2 a2) := Lib.hid (Xx2.out.below b)
      clear K0x0 K0x1 K0x2 K0x3 K0x4 K0x5 K0x6 V0x0 V0x1 V0x2 V0x3 V0x4 V0x5 V0x6
      clear K0_7 Xx0_2 V0_1 Xx2
      clear b
      have G0 := Lib.hid gh0
      clear gh0
      obtain ⟨K0x0, K0x1, K0x2, K0x3, K0x4, K0x5, K0x6⟩ := K0_8.out.sevenT
      obtain ⟨V0x0, V0x1, V0x2, V0x3, V0x4, V0x5, V0x6⟩ := V0_2.out.sevenT
      go_wp2_with fail
      refine (sameFloat_yes _ _ _ (by rw [canon_wideV, canon_wideV, C0.out, G0.out])).mono ?_
      rintro e wd9 ⟨nq, rfl, hw⟩
      have b : Below wd8.heap.size wd8 wd9 := by rw [hw]; repeat (first | exact Below.refl _ _ | refine below_draws ?_ _)
      clear hw
      have B9 : Hid (Below w.heap.size w wd9) := Lib.hid (below_of B8.out B8.out.size b)
      have Z9 : Hid (wd8.heap.size ≤ wd9.heap.size) := Lib.hid b.size
      have K0_9 : Hid (BlkL wd9 (w.heap.size) [.slice A0 a0.length ca0, .slice L0 l0.length cl0, .slice D0 d0.length cd0, .slice S0 n0 cs0, .int .i64 c0, .float .f32 hub0, .float .f32 tip0]) := Lib.hid (K0_8.out.below b)
      have Xx0_4 : Hid (OwnT wd9 wd4.heap.size (some ⟨x01, 0, none⟩) (some ⟨x02, 0, none⟩) (some ⟨x03, 0, none⟩) (some ⟨x04, 0, none⟩) x01 x02 x03 x04 a0 l0 d0 s0) := Lib.hid (Xx0_3.out.below b)
      have V0_3 : Hid (BlkL wd9 (wd5.heap.size) [.slice (some ⟨x01, 0, none⟩) a0.length a0.length, .slice (some ⟨x02, 0, none⟩) l0.length l0.length, .slice (some ⟨x03, 0, none⟩) d0.length d0.length, .slice (some ⟨x04, 0, none⟩) n0 n0, .int .i64 c0, .float .f32 hub0, .float .f32 tip0]) := Lib.hid (V0_2.out.below b)
      have Xx2_2 : Hid (OwnO wd9 wd6.heap.size (some ⟨x2, 0, none⟩) x2 a2) := Lib.hid (Xx2_1.out.below b)
      clear K0x0 K0x1 K0x2 K0x3 K0x4 K0x5 K0x6 V0x0 V0x1 V0x2 V0x3 V0x4 V0x5 V0x6
      clear K0_8 Xx0_3 V0_2 Xx2_1
      clear b
      obtain ⟨K0x0, K0x1, K0x2, K0x3, K0x4, K0x5, K0x6⟩ := K0_9.out.sevenT
      obtain ⟨V0x0, V0x1, V0x2, V0x3, V0x4, V0x5, V0x6⟩ := V0_3.out.sevenT
      go_wp2_with fail
      clear K0x0 K0x1 K0x2 K0x3 K0x4 K0x5 K0x6 V0x0 V0x1 V0x2 V0x3 V0x4 V0x5 V0x6
      refine wp_region_inv4 (fun iq wv v => match iq with
        | 0 => v = .agg #[.slice (some ⟨x01, 0, none⟩) a0.length a0.length, .slice (some ⟨x02, 0, none⟩) l0.length l0.length, .slice (some ⟨x03, 0, none⟩) d0.length d0.length, .slice (some ⟨x04, 0, none⟩) n0 n0, .int .i64 c0, .float .f32 hub0, .float .f32 tip0]
        | 1 => v = .agg #[.slice A0 a0.length ca0, .slice L0 l0.length cl0, .slice D0 d0.length cd0, .slice S0 n0 cs0, .int .i64 c0, .float .f32 hub0, .float .f32 tip0]
        | 2 => ∃ q1 q2 q3 q4, v = .agg #[.slice (some ⟨q1, 0, none⟩) a0.length a0.length, .slice (some ⟨q2, 0, none⟩) l0.length l0.length, .slice (some ⟨q3, 0, none⟩) d0.length d0.length, .slice (some ⟨q4, 0, none⟩) n0 n0, .int .i64 c0, .float .f32 hub0, .float .f32 tip0] ∧ OwnT wv wd9.heap.size (some ⟨q1, 0, none⟩) (some ⟨q2, 0, none⟩) (some ⟨q3, 0, none⟩) (some ⟨q4, 0, none⟩) q1 q2 q3 q4 a0 l0 d0 s0
        | 3 => v = .bool true
        | 4 => v = .bool false
        | _ => False) (fun _ ww => Below wd9.heap.size wd9 ww) (fun w w' => Below w.heap.size w w') ?hmono (by kernel_rfl) (by kernel_rfl) ((Below.refl _ _).drew) ?hop ?hend
      case hmono =>
        intro i wa wb v hR hV
        rcases i with _ | _ | _ | _ | _ | i
        · exact hV
        · exact hV
        · obtain ⟨q1, q2, q3, q4, rfl, ho⟩ := hV; exact ⟨q1, q2, q3, q4, rfl, ho.below hR⟩
        · exact hV
        · exact hV
        · exact hV
      case hop =>
        intro q o hq listed act w3 hI hnot hcl hall
        have hB := hI.cls
        obtain ⟨K0x0, K0x1, K0x2, K0x3, K0x4, K0x5, K0x6⟩ := (K0_9.out.below hB).sevenT
        obtain ⟨V0x0, V0x1, V0x2, V0x3, V0x4, V0x5, V0x6⟩ := (V0_3.out.below hB).sevenT
        rcases q with _ | _ | _ | _ | _ | q
        · simp at hq; subst hq
          have g15 : act.tmps[15]?.getD undef = .pointer (some ⟨wd5.heap.size, 0, none⟩) := hI.kept 15 (by kernel_rfl)
          clear hI hall hnot hcl
          refine .inl ⟨wanted_none rfl, ?_⟩
          unfold Oper.wp
          go_simp
          all_goals first | exact ⟨_, rfl, Below.refl _ _, rfl, hB⟩ | exact ⟨Below.refl _ _, hB⟩ | exact Below.refl _ _
        · simp at hq; subst hq
          have g5 : act.tmps[5]?.getD undef = .pointer (some ⟨w.heap.size, 0, none⟩) := hI.kept 5 (by kernel_rfl)
          clear hI hall hnot hcl
          refine .inl ⟨wanted_none rfl, ?_⟩
          unfold Oper.wp
          go_simp
          all_goals first | exact ⟨_, rfl, Below.refl _ _, rfl, hB⟩ | exact ⟨Below.refl _ _, hB⟩ | exact Below.refl _ _
        · simp at hq; subst hq
          have g71 : act.tmps[71]?.getD undef = .agg #[.slice A0 a0.length ca0, .slice L0 l0.length cl0, .slice D0 d0.length cd0, .slice S0 n0 cs0, .int .i64 c0, .float .f32 hub0, .float .f32 tip0] := hI.has 1 71 rfl (hall ⟨1, .data⟩ (by simp) rfl)
          clear hI hall hnot hcl
          refine .inl ⟨wanted_none rfl, ?_⟩
          unfold Oper.wp
          go_simp
          refine (l_toRotor A0 L0 D0 S0 ca0 cl0 cd0 n0 cs0 c0 hub0 tip0 a0 l0 d0 s0 _ (HP0.out.below (below_of B9.out B9.out.size hB)) HN0.out).mono ?_
          rintro e w4 ⟨q1, q2, q3, q4, rfl, ho, b4⟩
          exact ⟨_, rfl, b4, ⟨q1, q2, q3, q4, rfl, (OwnR.t ho).baseT (by have := hB.size; omega)⟩, below_of hB hB.size b4⟩
        · simp at hq; subst hq
          have g70 : act.tmps[70]?.getD undef = .agg #[.slice (some ⟨x01, 0, none⟩) a0.length a0.length, .slice (some ⟨x02, 0, none⟩) l0.length l0.length, .slice (some ⟨x03, 0, none⟩) d0.length d0.length, .slice (some ⟨x04, 0, none⟩) n0 n0, .int .i64 c0, .float .f32 hub0, .float .f32 tip0] := hI.has 0 70 rfl (hall ⟨0, .data⟩ (by simp) rfl)
          obtain ⟨q12, q22, q32, q42, g72, h2a⟩ := hI.has 2 72 rfl (hall ⟨2, .data⟩ (by simp) rfl)
          clear hI hall hnot hcl
          refine .inl ⟨wanted_none rfl, ?_⟩
          unfold Oper.wp
          go_simp
          refine (l_eqRotor _ _ _ _ _ _ _ _ _ _ _ _ _ _ _ _ _ _ _ _ a0 l0 d0 s0 _ (Xx0_4.out.below hB).rt (OwnT.rt h2a) HN0.out).mono ?_
          rintro e w4 ⟨rfl, b4⟩
          exact ⟨_, rfl, b4, rfl, below_of hB hB.size b4⟩
        · simp at hq; subst hq
          have g73 : act.tmps[73]?.getD undef = .bool true := hI.has 3 73 rfl (hall ⟨3, .data⟩ (by simp) rfl)
          clear hI hall hnot hcl
          refine .inl ⟨wanted_none rfl, ?_⟩
          unfold Oper.wp
          go_simp
          all_goals first | exact ⟨_, rfl, Below.refl _ _, rfl, hB⟩ | exact ⟨Below.refl _ _, hB⟩ | exact Below.refl _ _
        · simp at hq
      case hend =>
        intro listed act w3 hI hall
        have hB := hI.cls
        obtain ⟨K0x0, K0x1, K0x2, K0x3, K0x4, K0x5, K0x6⟩ := (K0_9.out.below hB).sevenT
        obtain ⟨V0x0, V0x1, V0x2, V0x3, V0x4, V0x5, V0x6⟩ := (V0_3.out.below hB).sevenT
        have g74 : act.tmps[74]?.getD undef = .bool false := hI.has 4 74 rfl (hall 4 (by decide))
        have g0 := hI.kept 0 (by kernel_rfl)
        conv at g0 => rhs; whnf
        have g1 := hI.kept 1 (by kernel_rfl)
        conv at g1 => rhs; whnf
        have g2 := hI.kept 2 (by kernel_rfl)
        conv at g2 => rhs; whnf
        have g3 := hI.kept 3 (by kernel_rfl)
        conv at g3 => rhs; whnf
        have g4 := hI.kept 4 (by kernel_rfl)
        conv at g4 => rhs; whnf
        have g5 := hI.kept 5 (by kernel_rfl)
        conv at g5 => rhs; whnf
        have g6 : act.tmps[6]?.getD undef = undef := hI.kept 6 (by kernel_rfl)
        have g7 : act.tmps[7]?.getD undef = undef := hI.kept 7 (by kernel_rfl)
        have g8 : act.tmps[8]?.getD undef = undef := hI.kept 8 (by kernel_rfl)
        have g9 : act.tmps[9]?.getD undef = undef := hI.kept 9 (by kernel_rfl)
        have g10 := hI.kept 10 (by kernel_rfl)
        conv at g10 => rhs; whnf
        have g11 := hI.kept 11 (by kernel_rfl)
        conv at g11 => rhs; whnf
        have g12 := hI.kept 12 (by kernel_rfl)
        conv at g12 => rhs; whnf
        have g13 := hI.kept 13 (by kernel_rfl)
        conv at g13 => rhs; whnf
        have g14 := hI.kept 14 (by kernel_rfl)
        conv at g14 => rhs; whnf
        have g15 := hI.kept 15 (by kernel_rfl)
        conv at g15 => rhs; whnf
        have g16 := hI.kept 16 (by kernel_rfl)
        conv at g16 => rhs; whnf
        have g17 := hI.kept 17 (by kernel_rfl)
        conv at g17 => rhs; whnf
        have g18 := hI.kept 18 (by kernel_rfl)
        conv at g18 => rhs; whnf
        have g19 := hI.kept 19 (by kernel_rfl)
        conv at g19 => rhs; whnf
        have g20 := hI.kept 20 (by kernel_rfl)
        conv at g20 => rhs; whnf
        have g21 := hI.kept 21 (by kernel_rfl)
        conv at g21 => rhs; whnf
        have g22 := hI.kept 22 (by kernel_rfl)
        conv at g22 => rhs; whnf
        have g23 := hI.kept 23 (by kernel_rfl)
        conv at g23 => rhs; whnf
        have g24 := hI.kept 24 (by kernel_rfl)
        conv at g24 => rhs; whnf
        have g25 := hI.kept 25 (by kernel_rfl)
        conv at g25 => rhs; whnf
        have g26 := hI.kept 26 (by kernel_rfl)
        conv at g26 => rhs; whnf
        have g27 := hI.kept 27 (by kernel_rfl)
        conv at g27 => rhs; whnf
        have g28 := hI.kept 28 (by kernel_rfl)
        conv at g28 => rhs; whnf
        have g29 := hI.kept 29 (by kernel_rfl)
        conv at g29 => rhs; whnf
        have g30 := hI.kept 30 (by kernel_rfl)
        conv at g30 => rhs; whnf
        have g31 := hI.kept 31 (by kernel_rfl)
        conv at g31 => rhs; whnf
        have g32 := hI.kept 32 (by kernel_rfl)
        conv at g32 => rhs; whnf
        have g33 := hI.kept 33 (by kernel_rfl)
        conv at g33 => rhs; whnf
        have g34 := hI.kept 34 (by kernel_rfl)
        conv at g34 => rhs; whnf
        have g35 := hI.kept 35 (by kernel_rfl)
        conv at g35 => rhs; whnf
        have g36 := hI.kept 36 (by kernel_rfl)
        conv at g36 => rhs; whnf
        have g37 := hI.kept 37 (by kernel_rfl)
        conv at g37 => rhs; whnf
        have g38 := hI.kept 38 (by kernel_rfl)
        conv at g38 => rhs; whnf
        have g39 := hI.kept 39 (by kernel_rfl)
        conv at g39 => rhs; whnf
        have g40 := hI.kept 40 (by kernel_rfl)
        conv at g40 => rhs; whnf
        have g41 := hI.kept 41 (by kernel_rfl)
        conv at g41 => rhs; whnf
        have g42 := hI.kept 42 (by kernel_rfl)
        conv at g42 => rhs; whnf
        have g43 := hI.kept 43 (by kernel_rfl)
        conv at g43 => rhs; whnf
        have g44 := hI.kept 44 (by kernel_rfl)
        conv at g44 => rhs; whnf
        have g45 := hI.kept 45 (by kernel_rfl)
        conv at g45 => rhs; whnf
        have g46 := hI.kept 46 (by kernel_rfl)
        conv at g46 => rhs; whnf
        have g47 := hI.kept 47 (by kernel_rfl)
        conv at g47 => rhs; whnf
        have g48 := hI.kept 48 (by kernel_rfl)
        conv at g48 => rhs; whnf
        have g49 := hI.kept 49 (by kernel_rfl)
        conv at g49 => rhs; whnf
        have g50 := hI.kept 50 (by kernel_rfl)
        conv at g50 => rhs; whnf
        have g51 := hI.kept 51 (by kernel_rfl)
        conv at g51 => rhs; whnf
        have g52 := hI.kept 52 (by kernel_rfl)
        conv at g52 => rhs; whnf
        have g53 := hI.kept 53 (by kernel_rfl)
        conv at g53 => rhs; whnf
        have g54 := hI.kept 54 (by kernel_rfl)
        conv at g54 => rhs; whnf
        have g55 := hI.kept 55 (by kernel_rfl)
        conv at g55 => rhs; whnf
        have g56 := hI.kept 56 (by kernel_rfl)
        conv at g56 => rhs; whnf
        have g57 := hI.kept 57 (by kernel_rfl)
        conv at g57 => rhs; whnf
        have g58 := hI.kept 58 (by kernel_rfl)
        conv at g58 => rhs; whnf
        have g59 := hI.kept 59 (by kernel_rfl)
        conv at g59 => rhs; whnf
        have g60 := hI.kept 60 (by kernel_rfl)
        conv at g60 => rhs; whnf
        have g61 := hI.kept 61 (by kernel_rfl)
        conv at g61 => rhs; whnf
        have g62 := hI.kept 62 (by kernel_rfl)
        conv at g62 => rhs; whnf
        have g63 := hI.kept 63 (by kernel_rfl)
        conv at g63 => rhs; whnf
        have g64 := hI.kept 64 (by kernel_rfl)
        conv at g64 => rhs; whnf
        have g65 := hI.kept 65 (by kernel_rfl)
        conv at g65 => rhs; whnf
        have g66 := hI.kept 66 (by kernel_rfl)
        conv at g66 => rhs; whnf
        have g67 := hI.kept 67 (by kernel_rfl)
        conv at g67 => rhs; whnf
        have g68 := hI.kept 68 (by kernel_rfl)
        conv at g68 => rhs; whnf
        have g69 := hI.kept 69 (by kernel_rfl)
        conv at g69 => rhs; whnf
        have g75 : act.tmps[75]?.getD undef = undef := hI.kept 75 (by kernel_rfl)
        have g76 : act.tmps[76]?.getD undef = undef := hI.kept 76 (by kernel_rfl)
        have g77 : act.tmps[77]?.getD undef = undef := hI.kept 77 (by kernel_rfl)
        have g78 : act.tmps[78]?.getD undef = undef := hI.kept 78 (by kernel_rfl)
        have g79 : act.tmps[79]?.getD undef = undef := hI.kept 79 (by kernel_rfl)
        have hsz : act.tmps.size = 80 := hI.size.trans (by kernel_rfl)
        have hd := hI.defers
        clear hI hall K0x0 K0x1 K0x2 K0x3 K0x4 K0x5 K0x6 V0x0 V0x1 V0x2 V0x3 V0x4 V0x5 V0x6
        obtain ⟨tt, dd⟩ := act
        simp only at g0 g1 g2 g3 g4 g5 g6 g7 g8 g9 g10 g11 g12 g13 g14 g15 g16 g17 g18 g19 g20 g21 g22 g23 g24 g25 g26 g27 g28 g29 g30 g31 g32 g33 g34 g35 g36 g37 g38 g39 g40 g41 g42 g43 g44 g45 g46 g47 g48 g49 g50 g51 g52 g53 g54 g55 g56 g57 g58 g59 g60 g61 g62 g63 g64 g65 g66 g67 g68 g69 g74 g75 g76 g77 g78 g79 hsz hd
        subst hd
        have hl : tt = #[tt[0]?.getD undef, tt[1]?.getD undef, tt[2]?.getD undef, tt[3]?.getD undef, tt[4]?.getD undef, tt[5]?.getD undef, tt[6]?.getD undef, tt[7]?.getD undef, tt[8]?.getD undef, tt[9]?.getD undef, tt[10]?.getD undef, tt[11]?.getD undef, tt[12]?.getD undef, tt[13]?.getD undef, tt[14]?.getD undef, tt[15]?.getD undef, tt[16]?.getD undef, tt[17]?.getD undef, tt[18]?.getD undef, tt[19]?.getD undef, tt[20]?.getD undef, tt[21]?.getD undef, tt[22]?.getD undef, tt[23]?.getD undef, tt[24]?.getD undef, tt[25]?.getD undef, tt[26]?.getD undef, tt[27]?.getD undef, tt[28]?.getD undef, tt[29]?.getD undef, tt[30]?.getD undef, tt[31]?.getD undef, tt[32]?.getD undef, tt[33]?.getD undef, tt[34]?.getD undef, tt[35]?.getD undef, tt[36]?.getD undef, tt[37]?.getD undef, tt[38]?.getD undef, tt[39]?.getD undef, tt[40]?.getD undef, tt[41]?.getD undef, tt[42]?.getD undef, tt[43]?.getD undef, tt[44]?.getD undef, tt[45]?.getD undef, tt[46]?.getD undef, tt[47]?.getD undef, tt[48]?.getD undef, tt[49]?.getD undef, tt[50]?.getD undef, tt[51]?.getD undef, tt[52]?.getD undef, tt[53]?.getD undef, tt[54]?.getD undef, tt[55]?.getD undef, tt[56]?.getD undef, tt[57]?.getD undef, tt[58]?.getD undef, tt[59]?.getD undef, tt[60]?.getD undef, tt[61]?.getD undef, tt[62]?.getD undef, tt[63]?.getD undef, tt[64]?.getD undef, tt[65]?.getD undef, tt[66]?.getD undef, tt[67]?.getD undef, tt[68]?.getD undef, tt[69]?.getD undef, tt[70]?.getD undef, tt[71]?.getD undef, tt[72]?.getD undef, tt[73]?.getD undef, tt[74]?.getD undef, tt[75]?.getD undef, tt[76]?.getD undef, tt[77]?.getD undef, tt[78]?.getD undef, tt[79]?.getD undef] := (arr_lit hsz).trans rfl
        rw [g0, g1, g2, g3, g4, g5, g6, g7, g8, g9, g10, g11, g12, g13, g14, g15, g16, g17, g18, g19, g20, g21, g22, g23, g24, g25, g26, g27, g28, g29, g30, g31, g32, g33, g34, g35, g36, g37, g38, g39, g40, g41, g42, g43, g44, g45, g46, g47, g48, g49, g50, g51, g52, g53, g54, g55, g56, g57, g58, g59, g60, g61, g62, g63, g64, g65, g66, g67, g68, g69, g74, g75, g76, g77, g78, g79] at hl
        clear g0 g1 g2 g3 g4 g5 g6 g7 g8 g9 g10 g11 g12 g13 g14 g15 g16 g17 g18 g19 g20 g21 g22 g23 g24 g25 g26 g27 g28 g29 g30 g31 g32 g33 g34 g35 g36 g37 g38 g39 g40 g41 g42 g43 g44 g45 g46 g47 g48 g49 g50 g51 g52 g53 g54 g55 g56 g57 g58 g59 g60 g61 g62 g63 g64 g65 g66 g67 g68 g69 g74 g75 g76 g77 g78 g79 hsz
        generalize tt[70]?.getD undef = y70 at hl
        generalize tt[71]?.getD undef = y71 at hl
        generalize tt[72]?.getD undef = y72 at hl
        generalize tt[73]?.getD undef = y73 at hl
        subst hl
        obtain ⟨wd10, hww⟩ : ∃ x, x = w3 := ⟨_, rfl⟩
        rw [← hww] at hB ⊢
        clear hww
        have B10 : Hid (Below w.heap.size w wd10) := Lib.hid (below_of B9.out B9.out.size hB)
        have Z10 : Hid (wd9.heap.size ≤ wd10.heap.size) := Lib.hid hB.size
        have K0_10 : Hid (BlkL wd10 (w.heap.size) [.slice A0 a0.length ca0, .slice L0 l0.length cl0, .slice D0 d0.length cd0, .slice S0 n0 cs0, .int .i64 c0, .float .f32 hub0, .float .f32 tip0]) := Lib.hid (K0_9.out.below hB)
        have Xx0_5 : Hid (OwnT wd10 wd4.heap.size (some ⟨x01, 0, none⟩) (some ⟨x02, 0, none⟩) (some ⟨x03, 0, none⟩) (some ⟨x04, 0, none⟩) x01 x02 x03 x04 a0 l0 d0 s0) := Lib.hid (Xx0_4.out.below hB)
        have V0_4 : Hid (BlkL wd10 (wd5.heap.size) [.slice (some ⟨x01, 0, none⟩) a0.length a0.length, .slice (some ⟨x02, 0, none⟩) l0.length l0.length, .slice (some ⟨x03, 0, none⟩) d0.length d0.length, .slice (some ⟨x04, 0, none⟩) n0 n0, .int .i64 c0, .float .f32 hub0, .float .f32 tip0]) := Lib.hid (V0_3.out.below hB)
        have Xx2_3 : Hid (OwnO wd10 wd6.heap.size (some ⟨x2, 0, none⟩) x2 a2) := Lib.hid (Xx2_2.out.below hB)
        clear K0_9 Xx0_4 V0_3 Xx2_2
        clear hB
        obtain ⟨K0x0, K0x1, K0x2, K0x3, K0x4, K0x5, K0x6⟩ := K0_10.out.sevenT
        obtain ⟨V0x0, V0x1, V0x2, V0x3, V0x4, V0x5, V0x6⟩ := V0_4.out.sevenT
        go_wp2_with fail
        refine (l_toF32N A2 cap2 a2 _ (HP2.out.below B10.out) HN2.out).mono ?_
        rintro e wd11 ⟨rfl, ho, b⟩
        obtain ⟨y2, hy2⟩ : ∃ x, x = wd10.heap.size := ⟨_, rfl⟩
        rw [← hy2] at ho
        rw [← hy2]
        have B11 : Hid (Below w.heap.size w wd11) := Lib.hid (below_of B10.out B10.out.size b)
        have Z11 : Hid (wd10.heap.size ≤ wd11.heap.size) := Lib.hid b.size
        have K0_11 : Hid (BlkL wd11 (w.heap.size) [.slice A0 a0.length ca0, .slice L0 l0.length cl0, .slice D0 d0.length cd0, .slice S0 n0 cs0, .int .i64 c0, .float .f32 hub0, .float .f32 tip0]) := Lib.hid (K0_10.out.below b)
        have Xx0_6 : Hid (OwnT wd11 wd4.heap.size (some ⟨x01, 0, none⟩) (some ⟨x02, 0, none⟩) (some ⟨x03, 0, none⟩) (some ⟨x04, 0, none⟩) x01 x02 x03 x04 a0 l0 d0 s0) := Lib.hid (Xx0_5.out.below b)
        have V0_5 : Hid (BlkL wd11 (wd5.heap.size) [.slice (some ⟨x01, 0, none⟩) a0.length a0.length, .slice (some ⟨x02, 0, none⟩) l0.length l0.length, .slice (some ⟨x03, 0, none⟩) d0.length d0.length, .slice (some ⟨x04, 0, none⟩) n0 n0, .int .i64 c0, .float .f32 hub0, .float .f32 tip0]) := Lib.hid (V0_4.out.below b)
        have Xx2_4 : Hid (OwnO wd11 wd6.heap.size (some ⟨x2, 0, none⟩) x2 a2) := Lib.hid (Xx2_3.out.below b)
        clear K0x0 K0x1 K0x2 K0x3 K0x4 K0x5 K0x6 V0x0 V0x1 V0x2 V0x3 V0x4 V0x5 V0x6
        clear K0_10 Xx0_5 V0_4 Xx2_3
        have Xy2 : Hid (OwnO wd11 wd10.heap.size (some ⟨y2, 0, none⟩) y2 a2) := Lib.hid (Own.o ho (by omega))
        have Xy2bd := Xy2
        clear ho b hy2
        obtain ⟨K0x0, K0x1, K0x2, K0x3, K0x4, K0x5, K0x6⟩ := K0_11.out.sevenT
        obtain ⟨V0x0, V0x1, V0x2, V0x3, V0x4, V0x5, V0x6⟩ := V0_5.out.sevenT
        go_wp2_with fail
        refine (l_eqF32 _ _ _ _ a2 _ Xx2_4.out.fl Xy2.out.fl HN2.out).mono ?_
        rintro e wd12 ⟨nq, rfl, hw⟩
        have b : Below wd11.heap.size wd11 wd12 := by rw [hw]; repeat (first | exact Below.refl _ _ | refine below_draws ?_ _)
        clear hw
        have B12 : Hid (Below w.heap.size w wd12) := Lib.hid (below_of B11.out B11.out.size b)
        have Z12 : Hid (wd11.heap.size ≤ wd12.heap.size) := Lib.hid b.size
        have K0_12 : Hid (BlkL wd12 (w.heap.size) [.slice A0 a0.length ca0, .slice L0 l0.length cl0, .slice D0 d0.length cd0, .slice S0 n0 cs0, .int .i64 c0, .float .f32 hub0, .float .f32 tip0]) := Lib.hid (K0_11.out.below b)
        have Xx0_7 : Hid (OwnT wd12 wd4.heap.size (some ⟨x01, 0, none⟩) (some ⟨x02, 0, none⟩) (some ⟨x03, 0, none⟩) (some ⟨x04, 0, none⟩) x01 x02 x03 x04 a0 l0 d0 s0) := Lib.hid (Xx0_6.out.below b)
        have V0_6 : Hid (BlkL wd12 (wd5.heap.size) [.slice (some ⟨x01, 0, none⟩) a0.length a0.length, .slice (some ⟨x02, 0, none⟩) l0.length l0.length, .slice (some ⟨x03, 0, none⟩) d0.length d0.length, .slice (some ⟨x04, 0, none⟩) n0 n0, .int .i64 c0, .float .f32 hub0, .float .f32 tip0]) := Lib.hid (V0_5.out.below b)
        have Xx2_5 : Hid (OwnO wd12 wd6.heap.size (some ⟨x2, 0, none⟩) x2 a2) := Lib.hid (Xx2_4.out.below b)
        have Xy2_1 : Hid (OwnO wd12 wd10.heap.size (some ⟨y2, 0, none⟩) y2 a2) := Lib.hid (Xy2.out.below b)
        clear K0x0 K0x1 K0x2 K0x3 K0x4 K0x5 K0x6 V0x0 V0x1 V0x2 V0x3 V0x4 V0x5 V0x6
        clear K0_11 Xx0_6 V0_5 Xx2_4 Xy2
        clear b
        obtain ⟨K0x0, K0x1, K0x2, K0x3, K0x4, K0x5, K0x6⟩ := K0_12.out.sevenT
        obtain ⟨V0x0, V0x1, V0x2, V0x3, V0x4, V0x5, V0x6⟩ := V0_6.out.sevenT
        go_wp2
        go_ret
        exact ⟨rfl, B12.out⟩
    · skip
      obtain ⟨w0, hw0⟩ : ∃ x, x = (w.alloc (.cells #[.slice A0 a0.length ca0, .slice L0 l0.length cl0, .slice D0 d0.length cd0, .slice S0 n0 cs0, .int .i64 c0, .float .f32 hub0, .float .f32 tip0] 28)) := ⟨_, rfl⟩
      have B0 : Hid (Below w.heap.size w w0) := Lib.hid (by rw [hw0]; exact (Below.refl _ _).alloc (Nat.le_refl _) _)
      have Z0 : Hid (w0.heap.size = w.heap.size + 1) := Lib.hid (by rw [hw0]; simp)
      have K0 : Hid (BlkL w0 (w.heap.size) [.slice A0 a0.length ca0, .slice L0 l0.length cl0, .slice D0 d0.length cd0, .slice S0 n0 cs0, .int .i64 c0, .float .f32 hub0, .float .f32 tip0]) := Lib.hid (by rw [hw0]; exact blkL_at w #[.slice A0 a0.length ca0, .slice L0 l0.length cl0, .slice D0 d0.length cd0, .slice S0 n0 cs0, .int .i64 c0, .float .f32 hub0, .float .f32 tip0] 28 rfl)
      go_enter Tryz.func10, Tryz.ntmps10
      go_wp2_with fail
      rw [← hw0]
      clear hw0
      obtain ⟨K0x0, K0x1, K0x2, K0x3, K0x4, K0x5, K0x6⟩ := K0.out.sevenT
      go_wp2_with fail
      refine (l_szRotor_no A0 L0 D0 S0 _ ca0 _ cl0 _ cd0 n0 cs0 c0 hub0 tip0 _ _ (by omega) (by omega) (by omega) ma0 ml0 md0 ms0).mono ?_
      rintro e wd1 ⟨rfl, b⟩
      have B1 : Hid (Below w.heap.size w wd1) := Lib.hid (below_of B0.out B0.out.size b)
      have Z1 : Hid (w0.heap.size ≤ wd1.heap.size) := Lib.hid b.size
      have K0_1 : Hid (BlkL wd1 (w.heap.size) [.slice A0 a0.length ca0, .slice L0 l0.length cl0, .slice D0 d0.length cd0, .slice S0 n0 cs0, .int .i64 c0, .float .f32 hub0, .float .f32 tip0]) := Lib.hid (K0.out.below b)
      clear K0x0 K0x1 K0x2 K0x3 K0x4 K0x5 K0x6
      clear K0
      clear b
      obtain ⟨K0x0, K0x1, K0x2, K0x3, K0x4, K0x5, K0x6⟩ := K0_1.out.sevenT
      go_wp2
      go_ret
      exact ⟨rfl, B1.out⟩
  · skip
    go_enter Tryz.func10, Tryz.ntmps10
    go_wp2
    go_ret
    exact ⟨rfl, by first | exact Below.refl _ _ | exact (Below.refl _ _).alloc (Nat.le_refl _) _⟩
end Go.Proofs.YtahbcpjipomcgaaGreat

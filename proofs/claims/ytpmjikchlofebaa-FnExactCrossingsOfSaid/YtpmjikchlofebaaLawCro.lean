/- The law FnExactCrossingsOf. No statement is proved here. -/
import Derived.Test.YtpmjikchlofebaaCroI
import Derived.Test.YtpmjikchlofebaaCroS
import Derived.Test.YtpmjikchlofebaaMarkR
import Derived.Test.YtpmjikchlofebaaOpenI
namespace Go.Proofs.Ytpmjikchlofebaa
open Go Go.RowKit
set_option maxHeartbeats 16000000 in
set_option maxRecDepth 100000 in
theorem law_FnExactCrossingsOf (m0 d0 s0 : Nat) (A1 : Option Addr) (cap1 : Nat) (a1 : List Int) (A2 : Option Addr) (cap2 : Nat) (a2 : List Nat) (w : World) (_hm0 : m0 < words .f32) (_hd0 : d0 < words .f32) (_hs0 : s0 < words .f32) (h1 : FlI w A1 a1) (ma1 : a1.length ≤ 9223372036854775807) (hv1 : ∀ k, k < a1.length → (Lit.int .i64 (a1.getD k 0)).wf = true) (h2 : Fl w A2 a2) (ma2 : a2.length ≤ 9223372036854775807) :
    Calls Try.prog 9 #[.agg #[.float .f32 m0, .float .f32 d0, .float .f32 s0], .slice A1 a1.length cap1, .slice A2 a2.length cap2] w fun e w' => e = .returned (.bool true) ∧ Below w.heap.size w w' := by
  have HP1 := Lib.hid h1
  clear h1
  have HP2 := Lib.hid h2
  clear h2
  by_cases hn0 : a1.length ≤ 1048576
  · skip
    by_cases hn1 : a2.length ≤ 1048576
    · skip
      have HN1 : Hid (a1.length ≤ 1048576) := Lib.hid (by omega)
      have HN2 : Hid (a2.length ≤ 1048576) := Lib.hid (by omega)
      have HF : Hid ((croL m0 d0 s0 a1 a2).length ≤ 2048) := Lib.hid (croL_few m0 d0 s0 a1 a2)
      obtain ⟨w0, hw0⟩ : ∃ x, x = (w.alloc (.cells #[.float .f32 m0, .float .f32 d0, .float .f32 s0] 75)) := ⟨_, rfl⟩
      have B0 : Hid (Below w.heap.size w w0) := Lib.hid (by rw [hw0]; exact (Below.refl _ _).alloc (Nat.le_refl _) _)
      have Z0 : Hid (w0.heap.size = w.heap.size + 1) := Lib.hid (by rw [hw0]; simp)
      have K0 : Hid (BlkL w0 (w.heap.size) [.float .f32 m0, .float .f32 d0, .float .f32 s0]) := Lib.hid (by rw [hw0]; exact blkL_at w #[.float .f32 m0, .float .f32 d0, .float .f32 s0] 75 rfl)
      go_enter Try.func9, Try.ntmps9
      go_wp2_with fail
      rw [← hw0]
      clear hw0
      obtain ⟨K0x0, K0x1, K0x2⟩ := K0.out.three
      go_wp2_with fail
      refine (l_toTower m0 d0 s0 _).mono ?_
      rintro e wd1 ⟨rfl, b⟩
      have B1 : Hid (Below w.heap.size w wd1) := Lib.hid (below_of B0.out B0.out.size b)
      have Z1 : Hid (w0.heap.size ≤ wd1.heap.size) := Lib.hid b.size
      have K0_1 : Hid (BlkL wd1 (w.heap.size) [.float .f32 m0, .float .f32 d0, .float .f32 s0]) := Lib.hid (K0.out.below b)
      clear K0x0 K0x1 K0x2
      clear K0
      clear b
      obtain ⟨K0x0, K0x1, K0x2⟩ := K0_1.out.three
      go_wp2_with fail
      refine (l_toI64N A1 cap1 a1 _ (HP1.out.below B1.out) HN1.out).mono ?_
      rintro e wd2 ⟨rfl, ho, b⟩
      obtain ⟨p1, hp1⟩ : ∃ x, x = wd1.heap.size := ⟨_, rfl⟩
      rw [← hp1] at ho
      rw [← hp1]
      have B2 : Hid (Below w.heap.size w wd2) := Lib.hid (below_of B1.out B1.out.size b)
      have Z2 : Hid (wd1.heap.size ≤ wd2.heap.size) := Lib.hid b.size
      have K0_2 : Hid (BlkL wd2 (w.heap.size) [.float .f32 m0, .float .f32 d0, .float .f32 s0]) := Lib.hid (K0_1.out.below b)
      clear K0x0 K0x1 K0x2
      clear K0_1
      have Xp1 : Hid (OwnOI wd2 wd1.heap.size (some ⟨p1, 0, none⟩) p1 a1) := Lib.hid (OwnI.o ho (by omega))
      have Xp1bd := Xp1
      clear ho b hp1
      obtain ⟨K0x0, K0x1, K0x2⟩ := K0_2.out.three
      go_wp2_with fail
      refine (l_toF32N A2 cap2 a2 _ (HP2.out.below B2.out) HN2.out).mono ?_
      rintro e wd3 ⟨rfl, ho, b⟩
      obtain ⟨p2, hp2⟩ : ∃ x, x = wd2.heap.size := ⟨_, rfl⟩
      rw [← hp2] at ho
      rw [← hp2]
      have B3 : Hid (Below w.heap.size w wd3) := Lib.hid (below_of B2.out B2.out.size b)
      have Z3 : Hid (wd2.heap.size ≤ wd3.heap.size) := Lib.hid b.size
      have K0_3 : Hid (BlkL wd3 (w.heap.size) [.float .f32 m0, .float .f32 d0, .float .f32 s0]) := Lib.hid (K0_2.out.below b)
      have Xp1_1 : Hid (OwnOI wd3 wd1.heap.size (some ⟨p1, 0, none⟩) p1 a1) := Lib.hid (Xp1.out.below b)
      clear K0x0 K0x1 K0x2
      clear K0_2 Xp1
      have Xp2 : Hid (OwnO wd3 wd2.heap.size (some ⟨p2, 0, none⟩) p2 a2) := Lib.hid (Own.o ho (by omega))
      have Xp2bd := Xp2
      clear ho b hp2
      obtain ⟨K0x0, K0x1, K0x2⟩ := K0_3.out.three
      go_wp2_with fail
      refine (s_CrossingsOf m0 d0 s0 _ _ _ _ a1 a2 _ Xp1_1.out.fl Xp2.out.fl).mono ?_
      rintro e wd4 ⟨cR1, cc1, cg1, cq1, rfl, ho, b⟩
      have B4 : Hid (Below w.heap.size w wd4) := Lib.hid (below_of B3.out B3.out.size b)
      have Z4 : Hid (wd3.heap.size ≤ wd4.heap.size) := Lib.hid b.size
      have K0_4 : Hid (BlkL wd4 (w.heap.size) [.float .f32 m0, .float .f32 d0, .float .f32 s0]) := Lib.hid (K0_3.out.below b)
      have Xp1_2 : Hid (OwnOI wd4 wd1.heap.size (some ⟨p1, 0, none⟩) p1 a1) := Lib.hid (Xp1_1.out.below b)
      have Xp2_1 : Hid (OwnO wd4 wd2.heap.size (some ⟨p2, 0, none⟩) p2 a2) := Lib.hid (Xp2.out.below b)
      clear K0x0 K0x1 K0x2
      clear K0_3 Xp1_1 Xp2
      have Xc : Hid (OwnII wd4 wd3.heap.size cR1 cg1 cq1 (croL m0 d0 s0 a1 a2)) := Lib.hid (ho)
      have Xcbd := Xc
      clear ho
      clear b
      obtain ⟨K0x0, K0x1, K0x2⟩ := K0_4.out.three
      go_wp2_with fail
      refine (l_toI64N A1 cap1 a1 _ (HP1.out.below B4.out) HN1.out).mono ?_
      rintro e wd5 ⟨rfl, ho, b⟩
      obtain ⟨x1, hx1⟩ : ∃ x, x = wd4.heap.size := ⟨_, rfl⟩
      rw [← hx1] at ho
      rw [← hx1]
      have B5 : Hid (Below w.heap.size w wd5) := Lib.hid (below_of B4.out B4.out.size b)
      have Z5 : Hid (wd4.heap.size ≤ wd5.heap.size) := Lib.hid b.size
      have K0_5 : Hid (BlkL wd5 (w.heap.size) [.float .f32 m0, .float .f32 d0, .float .f32 s0]) := Lib.hid (K0_4.out.below b)
      have Xc_1 : Hid (OwnII wd5 wd3.heap.size cR1 cg1 cq1 (croL m0 d0 s0 a1 a2)) := Lib.hid (Xc.out.below b)
      clear K0x0 K0x1 K0x2
      clear K0_4 Xc
      have Xx1 : Hid (OwnOI wd5 wd4.heap.size (some ⟨x1, 0, none⟩) x1 a1) := Lib.hid (OwnI.o ho (by omega))
      have Xx1bd := Xx1
      clear ho b hx1
      obtain ⟨K0x0, K0x1, K0x2⟩ := K0_5.out.three
      go_wp2_with fail
      refine (l_toF32N A2 cap2 a2 _ (HP2.out.below B5.out) HN2.out).mono ?_
      rintro e wd6 ⟨rfl, ho, b⟩
      obtain ⟨x2, hx2⟩ : ∃ x, x = wd5.heap.size := ⟨_, rfl⟩
      rw [← hx2] at ho
      rw [← hx2]
      have B6 : Hid (Below w.heap.size w wd6) := Lib.hid (below_of B5.out B5.out.size b)
      have Z6 : Hid (wd5.heap.size ≤ wd6.heap.size) := Lib.hid b.size
      have K0_6 : Hid (BlkL wd6 (w.heap.size) [.float .f32 m0, .float .f32 d0, .float .f32 s0]) := Lib.hid (K0_5.out.below b)
      have Xc_2 : Hid (OwnII wd6 wd3.heap.size cR1 cg1 cq1 (croL m0 d0 s0 a1 a2)) := Lib.hid (Xc_1.out.below b)
      have Xx1_1 : Hid (OwnOI wd6 wd4.heap.size (some ⟨x1, 0, none⟩) x1 a1) := Lib.hid (Xx1.out.below b)
      clear K0x0 K0x1 K0x2
      clear K0_5 Xc_1 Xx1
      have Xx2 : Hid (OwnO wd6 wd5.heap.size (some ⟨x2, 0, none⟩) x2 a2) := Lib.hid (Own.o ho (by omega))
      have Xx2bd := Xx2
      clear ho b hx2
      obtain ⟨K0x0, K0x1, K0x2⟩ := K0_6.out.three
      go_wp2_with fail
      refine (l_toTower m0 d0 s0 _).mono ?_
      rintro e wd7 ⟨rfl, b⟩
      have B7 : Hid (Below w.heap.size w wd7) := Lib.hid (below_of B6.out B6.out.size b)
      have Z7 : Hid (wd6.heap.size ≤ wd7.heap.size) := Lib.hid b.size
      have K0_7 : Hid (BlkL wd7 (w.heap.size) [.float .f32 m0, .float .f32 d0, .float .f32 s0]) := Lib.hid (K0_6.out.below b)
      have Xc_3 : Hid (OwnII wd7 wd3.heap.size cR1 cg1 cq1 (croL m0 d0 s0 a1 a2)) := Lib.hid (Xc_2.out.below b)
      have Xx1_2 : Hid (OwnOI wd7 wd4.heap.size (some ⟨x1, 0, none⟩) x1 a1) := Lib.hid (Xx1_1.out.below b)
      have Xx2_1 : Hid (OwnO wd7 wd5.heap.size (some ⟨x2, 0, none⟩) x2 a2) := Lib.hid (Xx2.out.below b)
      clear K0x0 K0x1 K0x2
      clear K0_6 Xc_2 Xx1_1 Xx2
      clear b
      obtain ⟨K0x0, K0x1, K0x2⟩ := K0_7.out.three
      go_wp2_with fail
      refine (i_CrossingsOf m0 d0 s0 _ _ _ _ a1 a2 _ Xx1_2.out.fl Xx2_1.out.fl HN1.out HN2.out).mono ?_
      rintro e wd8 ⟨gR1, gc1, gg1, gq1, rfl, ho, b⟩
      have B8 : Hid (Below w.heap.size w wd8) := Lib.hid (below_of B7.out B7.out.size b)
      have Z8 : Hid (wd7.heap.size ≤ wd8.heap.size) := Lib.hid b.size
      have K0_8 : Hid (BlkL wd8 (w.heap.size) [.float .f32 m0, .float .f32 d0, .float .f32 s0]) := Lib.hid (K0_7.out.below b)
      have Xc_4 : Hid (OwnII wd8 wd3.heap.size cR1 cg1 cq1 (croL m0 d0 s0 a1 a2)) := Lib.hid (Xc_3.out.below b)
      have Xx1_3 : Hid (OwnOI wd8 wd4.heap.size (some ⟨x1, 0, none⟩) x1 a1) := Lib.hid (Xx1_2.out.below b)
      have Xx2_2 : Hid (OwnO wd8 wd5.heap.size (some ⟨x2, 0, none⟩) x2 a2) := Lib.hid (Xx2_1.out.below b)
      clear K0x0 K0x1 K0x2
      clear K0_7 Xc_3 Xx1_2 Xx2_1
      have Xg : Hid (OwnII wd8 wd7.heap.size gR1 gg1 gq1 (croL m0 d0 s0 a1 a2)) := Lib.hid (ho)
      have Xgbd := Xg
      clear ho
      clear b
      obtain ⟨K0x0, K0x1, K0x2⟩ := K0_8.out.three
      go_wp2_with fail
      refine (l_eqII _ _ _ _ (croL m0 d0 s0 a1 a2) _ Xg.out.fl Xc_4.out.fl HF.out).mono ?_
      rintro e wd9 ⟨nq, rfl, hw⟩
      have b : Below wd8.heap.size wd8 wd9 := by rw [hw]; repeat (first | exact Below.refl _ _ | refine below_draws ?_ _)
      clear hw
      have B9 : Hid (Below w.heap.size w wd9) := Lib.hid (below_of B8.out B8.out.size b)
      have Z9 : Hid (wd8.heap.size ≤ wd9.heap.size) := Lib.hid b.size
      have K0_9 : Hid (BlkL wd9 (w.heap.size) [.float .f32 m0, .float .f32 d0, .float .f32 s0]) := Lib.hid (K0_8.out.below b)
      have Xc_5 : Hid (OwnII wd9 wd3.heap.size cR1 cg1 cq1 (croL m0 d0 s0 a1 a2)) := Lib.hid (Xc_4.out.below b)
      have Xx1_4 : Hid (OwnOI wd9 wd4.heap.size (some ⟨x1, 0, none⟩) x1 a1) := Lib.hid (Xx1_3.out.below b)
      have Xx2_3 : Hid (OwnO wd9 wd5.heap.size (some ⟨x2, 0, none⟩) x2 a2) := Lib.hid (Xx2_2.out.below b)
      have Xg_1 : Hid (OwnII wd9 wd7.heap.size gR1 gg1 gq1 (croL m0 d0 s0 a1 a2)) := Lib.hid (Xg.out.below b)
      clear K0x0 K0x1 K0x2
      clear K0_8 Xc_4 Xx1_3 Xx2_2 Xg
      clear b
      obtain ⟨K0x0, K0x1, K0x2⟩ := K0_9.out.three
      go_wp2_with fail
      refine (l_toI64N A1 cap1 a1 _ (HP1.out.below B9.out) HN1.out).mono ?_
      rintro e wd10 ⟨rfl, ho, b⟩
      obtain ⟨y1, hy1⟩ : ∃ x, x = wd9.heap.size := ⟨_, rfl⟩
      rw [← hy1] at ho
      rw [← hy1]
      have B10 : Hid (Below w.heap.size w wd10) := Lib.hid (below_of B9.out B9.out.size b)
      have Z10 : Hid (wd9.heap.size ≤ wd10.heap.size) := Lib.hid b.size
      have K0_10 : Hid (BlkL wd10 (w.heap.size) [.float .f32 m0, .float .f32 d0, .float .f32 s0]) := Lib.hid (K0_9.out.below b)
      have Xc_6 : Hid (OwnII wd10 wd3.heap.size cR1 cg1 cq1 (croL m0 d0 s0 a1 a2)) := Lib.hid (Xc_5.out.below b)
      have Xx1_5 : Hid (OwnOI wd10 wd4.heap.size (some ⟨x1, 0, none⟩) x1 a1) := Lib.hid (Xx1_4.out.below b)
      have Xx2_4 : Hid (OwnO wd10 wd5.heap.size (some ⟨x2, 0, none⟩) x2 a2) := Lib.hid (Xx2_3.out.below b)
      have Xg_2 : Hid (OwnII wd10 wd7.heap.size gR1 gg1 gq1 (croL m0 d0 s0 a1 a2)) := Lib.hid (Xg_1.out.below b)
      clear K0x0 K0x1 K0x2
      clear K0_9 Xc_5 Xx1_4 Xx2_3 Xg_1
      have Xy1 : Hid (OwnOI wd10 wd9.heap.size (some ⟨y1, 0, none⟩) y1 a1) := Lib.hid (OwnI.o ho (by omega))
      have Xy1bd := Xy1
      clear ho b hy1
      obtain ⟨K0x0, K0x1, K0x2⟩ := K0_10.out.three
      go_wp2_with fail
      refine (l_eqI64 _ _ _ _ a1 _ Xx1_5.out.fl Xy1.out.fl HN1.out).mono ?_
      rintro e wd11 ⟨nq, rfl, hw⟩
      have b : Below wd10.heap.size wd10 wd11 := by rw [hw]; repeat (first | exact Below.refl _ _ | refine below_draws ?_ _)
      clear hw
      have B11 : Hid (Below w.heap.size w wd11) := Lib.hid (below_of B10.out B10.out.size b)
      have Z11 : Hid (wd10.heap.size ≤ wd11.heap.size) := Lib.hid b.size
      have K0_11 : Hid (BlkL wd11 (w.heap.size) [.float .f32 m0, .float .f32 d0, .float .f32 s0]) := Lib.hid (K0_10.out.below b)
      have Xc_7 : Hid (OwnII wd11 wd3.heap.size cR1 cg1 cq1 (croL m0 d0 s0 a1 a2)) := Lib.hid (Xc_6.out.below b)
      have Xx1_6 : Hid (OwnOI wd11 wd4.heap.size (some ⟨x1, 0, none⟩) x1 a1) := Lib.hid (Xx1_5.out.below b)
      have Xx2_5 : Hid (OwnO wd11 wd5.heap.size (some ⟨x2, 0, none⟩) x2 a2) := Lib.hid (Xx2_4.out.below b)
      have Xg_3 : Hid (OwnII wd11 wd7.heap.size gR1 gg1 gq1 (croL m0 d0 s0 a1 a2)) := Lib.hid (Xg_2.out.below b)
      have Xy1_1 : Hid (OwnOI wd11 wd9.heap.size (some ⟨y1, 0, none⟩) y1 a1) := Lib.hid (Xy1.out.below b)
      clear K0x0 K0x1 K0x2
      clear K0_10 Xc_6 Xx1_5 Xx2_4 Xg_2 Xy1
      clear b
      obtain ⟨K0x0, K0x1, K0x2⟩ := K0_11.out.three
      go_wp2_with fail
      refine (l_toF32N A2 cap2 a2 _ (HP2.out.below B11.out) HN2.out).mono ?_
      rintro e wd12 ⟨rfl, ho, b⟩
      obtain ⟨y2, hy2⟩ : ∃ x, x = wd11.heap.size := ⟨_, rfl⟩
      rw [← hy2] at ho
      rw [← hy2]
      have B12 : Hid (Below w.heap.size w wd12) := Lib.hid (below_of B11.out B11.out.size b)
      have Z12 : Hid (wd11.heap.size ≤ wd12.heap.size) := Lib.hid b.size
      have K0_12 : Hid (BlkL wd12 (w.heap.size) [.float .f32 m0, .float .f32 d0, .float .f32 s0]) := Lib.hid (K0_11.out.below b)
      have Xc_8 : Hid (OwnII wd12 wd3.heap.size cR1 cg1 cq1 (croL m0 d0 s0 a1 a2)) := Lib.hid (Xc_7.out.below b)
      have Xx1_7 : Hid (OwnOI wd12 wd4.heap.size (some ⟨x1, 0, none⟩) x1 a1) := Lib.hid (Xx1_6.out.below b)
      have Xx2_6 : Hid (OwnO wd12 wd5.heap.size (some ⟨x2, 0, none⟩) x2 a2) := Lib.hid (Xx2_5.out.below b)
      have Xg_4 : Hid (OwnII wd12 wd7.heap.size gR1 gg1 gq1 (croL m0 d0 s0 a1 a2)) := Lib.hid (Xg_3.out.below b)
      clear K0x0 K0x1 K0x2
      clear K0_11 Xc_7 Xx1_6 Xx2_5 Xg_3
      have Xy2 : Hid (OwnO wd12 wd11.heap.size (some ⟨y2, 0, none⟩) y2 a2) := Lib.hid (Own.o ho (by omega))
      have Xy2bd := Xy2
      clear ho b hy2
      obtain ⟨K0x0, K0x1, K0x2⟩ := K0_12.out.three
      go_wp2_with fail
      refine (l_eqF32 _ _ _ _ a2 _ Xx2_6.out.fl Xy2.out.fl HN2.out).mono ?_
      rintro e wd13 ⟨nq, rfl, hw⟩
      have b : Below wd12.heap.size wd12 wd13 := by rw [hw]; repeat (first | exact Below.refl _ _ | refine below_draws ?_ _)
      clear hw
      have B13 : Hid (Below w.heap.size w wd13) := Lib.hid (below_of B12.out B12.out.size b)
      have Z13 : Hid (wd12.heap.size ≤ wd13.heap.size) := Lib.hid b.size
      have K0_13 : Hid (BlkL wd13 (w.heap.size) [.float .f32 m0, .float .f32 d0, .float .f32 s0]) := Lib.hid (K0_12.out.below b)
      have Xc_9 : Hid (OwnII wd13 wd3.heap.size cR1 cg1 cq1 (croL m0 d0 s0 a1 a2)) := Lib.hid (Xc_8.out.below b)
      have Xx1_8 : Hid (OwnOI wd13 wd4.heap.size (some ⟨x1, 0, none⟩) x1 a1) := Lib.hid (Xx1_7.out.below b)
      have Xx2_7 : Hid (OwnO wd13 wd5.heap.size (some ⟨x2, 0, none⟩) x2 a2) := Lib.hid (Xx2_6.out.below b)
      have Xg_5 : Hid (OwnII wd13 wd7.heap.size gR1 gg1 gq1 (croL m0 d0 s0 a1 a2)) := Lib.hid (Xg_4.out.below b)
      have Xy2_1 : Hid (OwnO wd13 wd11.heap.size (some ⟨y2, 0, none⟩) y2 a2) := Lib.hid (Xy2.out.below b)
      clear K0x0 K0x1 K0x2
      clear K0_12 Xc_8 Xx1_7 Xx2_6 Xg_4 Xy2
      clear b
      obtain ⟨K0x0, K0x1, K0x2⟩ := K0_13.out.three
      go_wp2_with fail
      refine (l_markI64 _ _ _ (1) a1 _ (Xx1_8.out).a HN1.out (by omega) _ (by omega)).mono ?_
      rintro e wd14 ⟨rfl, -, t⟩
      have B14 : Hid (Below w.heap.size w wd14) := Lib.hid (t.2.2.2 w B13.out (by intro b hh; have h1 := Xx1bd.out.bd hh; have := Z0.out; have := Z1.out; have := Z2.out; have := Z3.out; have := Z4.out; have := Z5.out; have := Z6.out; have := Z7.out; have := Z8.out; have := Z9.out; have := Z10.out; have := Z11.out; have := Z12.out; have := Z13.out; omega))
      have Z14 : Hid (wd13.heap.size ≤ wd14.heap.size) := Lib.hid t.1
      have K0_14 : Hid (BlkL wd14 (w.heap.size) [.float .f32 m0, .float .f32 d0, .float .f32 s0]) := Lib.hid (K0_13.out.turnS t (by intro hh; have h1 := Xx1bd.out.bd hh; have := Z0.out; have := Z1.out; have := Z2.out; have := Z3.out; have := Z4.out; have := Z5.out; have := Z6.out; have := Z7.out; have := Z8.out; have := Z9.out; have := Z10.out; have := Z11.out; have := Z12.out; have := Z13.out; omega))
      have Xc_10 : Hid (OwnII wd14 wd3.heap.size cR1 cg1 cq1 (croL m0 d0 s0 a1 a2)) := Lib.hid (Xc_9.out.turnS t (by intro c hc hh; have h1 := Xx1bd.out.bd hh; have h2 := Xcbd.out.bd hc; have := Z0.out; have := Z1.out; have := Z2.out; have := Z3.out; have := Z4.out; have := Z5.out; have := Z6.out; have := Z7.out; have := Z8.out; have := Z9.out; have := Z10.out; have := Z11.out; have := Z12.out; have := Z13.out; omega))
      have Xx2_8 : Hid (OwnO wd14 wd5.heap.size (some ⟨x2, 0, none⟩) x2 a2) := Lib.hid (Xx2_7.out.turnS t (by intro c hc hh; have h1 := Xx1bd.out.bd hh; have h2 := Xx2bd.out.bd hc; have := Z0.out; have := Z1.out; have := Z2.out; have := Z3.out; have := Z4.out; have := Z5.out; have := Z6.out; have := Z7.out; have := Z8.out; have := Z9.out; have := Z10.out; have := Z11.out; have := Z12.out; have := Z13.out; omega))
      have Xg_6 : Hid (OwnII wd14 wd7.heap.size gR1 gg1 gq1 (croL m0 d0 s0 a1 a2)) := Lib.hid (Xg_5.out.turnS t (by intro c hc hh; have h1 := Xx1bd.out.bd hh; have h2 := Xgbd.out.bd hc; have := Z0.out; have := Z1.out; have := Z2.out; have := Z3.out; have := Z4.out; have := Z5.out; have := Z6.out; have := Z7.out; have := Z8.out; have := Z9.out; have := Z10.out; have := Z11.out; have := Z12.out; have := Z13.out; omega))
      clear K0x0 K0x1 K0x2
      clear K0_13 Xc_9 Xx2_7 Xg_5
      clear t
      have hk1 : (0 : Int) ≤ ((1 : Nat) : Int) + (a1.length : Int) := by omega
      obtain ⟨K0x0, K0x1, K0x2⟩ := K0_14.out.three
      go_wp2_with fail
      refine (l_markF32 _ _ _ (1 + a1.length) a2 _ (Xx2_8.out).a HN2.out (by omega) _ (by omega)).mono ?_
      rintro e wd15 ⟨rfl, -, t⟩
      have B15 : Hid (Below w.heap.size w wd15) := Lib.hid (t.2.2.2 w B14.out (by intro b hh; have h1 := Xx2bd.out.bd hh; have := Z0.out; have := Z1.out; have := Z2.out; have := Z3.out; have := Z4.out; have := Z5.out; have := Z6.out; have := Z7.out; have := Z8.out; have := Z9.out; have := Z10.out; have := Z11.out; have := Z12.out; have := Z13.out; have := Z14.out; omega))
      have Z15 : Hid (wd14.heap.size ≤ wd15.heap.size) := Lib.hid t.1
      have K0_15 : Hid (BlkL wd15 (w.heap.size) [.float .f32 m0, .float .f32 d0, .float .f32 s0]) := Lib.hid (K0_14.out.turnS t (by intro hh; have h1 := Xx2bd.out.bd hh; have := Z0.out; have := Z1.out; have := Z2.out; have := Z3.out; have := Z4.out; have := Z5.out; have := Z6.out; have := Z7.out; have := Z8.out; have := Z9.out; have := Z10.out; have := Z11.out; have := Z12.out; have := Z13.out; have := Z14.out; omega))
      have Xc_11 : Hid (OwnII wd15 wd3.heap.size cR1 cg1 cq1 (croL m0 d0 s0 a1 a2)) := Lib.hid (Xc_10.out.turnS t (by intro c hc hh; have h1 := Xx2bd.out.bd hh; have h2 := Xcbd.out.bd hc; have := Z0.out; have := Z1.out; have := Z2.out; have := Z3.out; have := Z4.out; have := Z5.out; have := Z6.out; have := Z7.out; have := Z8.out; have := Z9.out; have := Z10.out; have := Z11.out; have := Z12.out; have := Z13.out; have := Z14.out; omega))
      have Xg_7 : Hid (OwnII wd15 wd7.heap.size gR1 gg1 gq1 (croL m0 d0 s0 a1 a2)) := Lib.hid (Xg_6.out.turnS t (by intro c hc hh; have h1 := Xx2bd.out.bd hh; have h2 := Xgbd.out.bd hc; have := Z0.out; have := Z1.out; have := Z2.out; have := Z3.out; have := Z4.out; have := Z5.out; have := Z6.out; have := Z7.out; have := Z8.out; have := Z9.out; have := Z10.out; have := Z11.out; have := Z12.out; have := Z13.out; have := Z14.out; omega))
      clear K0x0 K0x1 K0x2
      clear K0_14 Xc_10 Xg_6
      clear t
      have hk2 : (0 : Int) ≤ ((1 : Nat) : Int) + (a1.length : Int) + (a2.length : Int) := by omega
      obtain ⟨K0x0, K0x1, K0x2⟩ := K0_15.out.three
      go_wp2_with fail
      refine (l_eqII _ _ _ _ (croL m0 d0 s0 a1 a2) _ Xg_7.out.fl Xc_11.out.fl HF.out).mono ?_
      rintro e wd16 ⟨nq, rfl, hw⟩
      have b : Below wd15.heap.size wd15 wd16 := by rw [hw]; repeat (first | exact Below.refl _ _ | refine below_draws ?_ _)
      clear hw
      have B16 : Hid (Below w.heap.size w wd16) := Lib.hid (below_of B15.out B15.out.size b)
      have Z16 : Hid (wd15.heap.size ≤ wd16.heap.size) := Lib.hid b.size
      have K0_16 : Hid (BlkL wd16 (w.heap.size) [.float .f32 m0, .float .f32 d0, .float .f32 s0]) := Lib.hid (K0_15.out.below b)
      have Xc_12 : Hid (OwnII wd16 wd3.heap.size cR1 cg1 cq1 (croL m0 d0 s0 a1 a2)) := Lib.hid (Xc_11.out.below b)
      have Xg_8 : Hid (OwnII wd16 wd7.heap.size gR1 gg1 gq1 (croL m0 d0 s0 a1 a2)) := Lib.hid (Xg_7.out.below b)
      clear K0x0 K0x1 K0x2
      clear K0_15 Xc_11 Xg_7
      clear b
      obtain ⟨K0x0, K0x1, K0x2⟩ := K0_16.out.three
      go_wp2_with fail
      refine (l_markII _ _ _ 1 _ _ (croL m0 d0 s0 a1 a2) _ (Xg_8.out) HF.out (by omega) _ rfl).mono ?_
      rintro e wd17 ⟨rfl, om, t⟩
      have B17 : Hid (Below w.heap.size w wd17) := Lib.hid (t.2.2.2 w B16.out (by intro b hh; have h1 := Xgbd.out.bd hh; have := Z0.out; have := Z1.out; have := Z2.out; have := Z3.out; have := Z4.out; have := Z5.out; have := Z6.out; have := Z7.out; have := Z8.out; have := Z9.out; have := Z10.out; have := Z11.out; have := Z12.out; have := Z13.out; have := Z14.out; have := Z15.out; have := Z16.out; omega))
      have Z17 : Hid (wd16.heap.size ≤ wd17.heap.size) := Lib.hid t.1
      have K0_17 : Hid (BlkL wd17 (w.heap.size) [.float .f32 m0, .float .f32 d0, .float .f32 s0]) := Lib.hid (K0_16.out.turnS t (by intro hh; have h1 := Xgbd.out.bd hh; have := Z0.out; have := Z1.out; have := Z2.out; have := Z3.out; have := Z4.out; have := Z5.out; have := Z6.out; have := Z7.out; have := Z8.out; have := Z9.out; have := Z10.out; have := Z11.out; have := Z12.out; have := Z13.out; have := Z14.out; have := Z15.out; have := Z16.out; omega))
      have Xc_13 : Hid (OwnII wd17 wd3.heap.size cR1 cg1 cq1 (croL m0 d0 s0 a1 a2)) := Lib.hid (Xc_12.out.turnS t (by intro c hc hh; have h1 := Xgbd.out.bd hh; have h2 := Xcbd.out.bd hc; have := Z0.out; have := Z1.out; have := Z2.out; have := Z3.out; have := Z4.out; have := Z5.out; have := Z6.out; have := Z7.out; have := Z8.out; have := Z9.out; have := Z10.out; have := Z11.out; have := Z12.out; have := Z13.out; have := Z14.out; have := Z15.out; have := Z16.out; omega))
      have XM : Hid (OwnII wd17 wd7.heap.size gR1 gg1 gq1 (marksII 1 (croL m0 d0 s0 a1 a2).length)) := Lib.hid (om)
      clear K0x0 K0x1 K0x2
      clear K0_16 Xc_12
      clear t om
      have hm : (0 : Int) ≤ ((1 : Nat) : Int) + 2 * ((croL m0 d0 s0 a1 a2).length : Int) := by omega
      obtain ⟨K0x0, K0x1, K0x2⟩ := K0_17.out.three
      go_wp2_with fail
      refine (l_heldII _ _ _ 1 _ _ _ _ (XM.out) HF.out (by omega) _ rfl).mono ?_
      rintro e wd18 ⟨nq, rfl, hw⟩
      have b : Below wd17.heap.size wd17 wd18 := by rw [hw]; repeat (first | exact Below.refl _ _ | refine below_draws ?_ _)
      clear hw
      have B18 : Hid (Below w.heap.size w wd18) := Lib.hid (below_of B17.out B17.out.size b)
      have Z18 : Hid (wd17.heap.size ≤ wd18.heap.size) := Lib.hid b.size
      have K0_18 : Hid (BlkL wd18 (w.heap.size) [.float .f32 m0, .float .f32 d0, .float .f32 s0]) := Lib.hid (K0_17.out.below b)
      have Xc_14 : Hid (OwnII wd18 wd3.heap.size cR1 cg1 cq1 (croL m0 d0 s0 a1 a2)) := Lib.hid (Xc_13.out.below b)
      have XM_1 : Hid (OwnII wd18 wd7.heap.size gR1 gg1 gq1 (marksII 1 (croL m0 d0 s0 a1 a2).length)) := Lib.hid (XM.out.below b)
      clear K0x0 K0x1 K0x2
      clear K0_17 Xc_13 XM
      clear b
      obtain ⟨K0x0, K0x1, K0x2⟩ := K0_18.out.three
      go_wp2_with fail
      refine (l_toTower m0 d0 s0 _).mono ?_
      rintro e wd19 ⟨rfl, b⟩
      have B19 : Hid (Below w.heap.size w wd19) := Lib.hid (below_of B18.out B18.out.size b)
      have Z19 : Hid (wd18.heap.size ≤ wd19.heap.size) := Lib.hid b.size
      have K0_19 : Hid (BlkL wd19 (w.heap.size) [.float .f32 m0, .float .f32 d0, .float .f32 s0]) := Lib.hid (K0_18.out.below b)
      have Xc_15 : Hid (OwnII wd19 wd3.heap.size cR1 cg1 cq1 (croL m0 d0 s0 a1 a2)) := Lib.hid (Xc_14.out.below b)
      have XM_2 : Hid (OwnII wd19 wd7.heap.size gR1 gg1 gq1 (marksII 1 (croL m0 d0 s0 a1 a2).length)) := Lib.hid (XM_1.out.below b)
      clear K0x0 K0x1 K0x2
      clear K0_18 Xc_14 XM_1
      clear b
      obtain ⟨K0x0, K0x1, K0x2⟩ := K0_19.out.three
      go_wp2_with fail
      refine (l_toI64N A1 cap1 a1 _ (HP1.out.below B19.out) HN1.out).mono ?_
      rintro e wd20 ⟨rfl, ho, b⟩
      obtain ⟨z1, hz1⟩ : ∃ x, x = wd19.heap.size := ⟨_, rfl⟩
      rw [← hz1] at ho
      rw [← hz1]
      have B20 : Hid (Below w.heap.size w wd20) := Lib.hid (below_of B19.out B19.out.size b)
      have Z20 : Hid (wd19.heap.size ≤ wd20.heap.size) := Lib.hid b.size
      have K0_20 : Hid (BlkL wd20 (w.heap.size) [.float .f32 m0, .float .f32 d0, .float .f32 s0]) := Lib.hid (K0_19.out.below b)
      have Xc_16 : Hid (OwnII wd20 wd3.heap.size cR1 cg1 cq1 (croL m0 d0 s0 a1 a2)) := Lib.hid (Xc_15.out.below b)
      have XM_3 : Hid (OwnII wd20 wd7.heap.size gR1 gg1 gq1 (marksII 1 (croL m0 d0 s0 a1 a2).length)) := Lib.hid (XM_2.out.below b)
      clear K0x0 K0x1 K0x2
      clear K0_19 Xc_15 XM_2
      have Xz1 : Hid (OwnOI wd20 wd19.heap.size (some ⟨z1, 0, none⟩) z1 a1) := Lib.hid (OwnI.o ho (by omega))
      have Xz1bd := Xz1
      clear ho b hz1
      obtain ⟨K0x0, K0x1, K0x2⟩ := K0_20.out.three
      go_wp2_with fail
      refine (l_toF32N A2 cap2 a2 _ (HP2.out.below B20.out) HN2.out).mono ?_
      rintro e wd21 ⟨rfl, ho, b⟩
      obtain ⟨z2, hz2⟩ : ∃ x, x = wd20.heap.size := ⟨_, rfl⟩
      rw [← hz2] at ho
      rw [← hz2]
      have B21 : Hid (Below w.heap.size w wd21) := Lib.hid (below_of B20.out B20.out.size b)
      have Z21 : Hid (wd20.heap.size ≤ wd21.heap.size) := Lib.hid b.size
      have K0_21 : Hid (BlkL wd21 (w.heap.size) [.float .f32 m0, .float .f32 d0, .float .f32 s0]) := Lib.hid (K0_20.out.below b)
      have Xc_17 : Hid (OwnII wd21 wd3.heap.size cR1 cg1 cq1 (croL m0 d0 s0 a1 a2)) := Lib.hid (Xc_16.out.below b)
      have XM_4 : Hid (OwnII wd21 wd7.heap.size gR1 gg1 gq1 (marksII 1 (croL m0 d0 s0 a1 a2).length)) := Lib.hid (XM_3.out.below b)
      have Xz1_1 : Hid (OwnOI wd21 wd19.heap.size (some ⟨z1, 0, none⟩) z1 a1) := Lib.hid (Xz1.out.below b)
      clear K0x0 K0x1 K0x2
      clear K0_20 Xc_16 XM_3 Xz1
      have Xz2 : Hid (OwnO wd21 wd20.heap.size (some ⟨z2, 0, none⟩) z2 a2) := Lib.hid (Own.o ho (by omega))
      have Xz2bd := Xz2
      clear ho b hz2
      obtain ⟨K0x0, K0x1, K0x2⟩ := K0_21.out.three
      go_wp2_with fail
      refine (i_CrossingsOf m0 d0 s0 _ _ _ _ a1 a2 _ Xz1_1.out.fl Xz2.out.fl HN1.out HN2.out).mono ?_
      rintro e wd22 ⟨hR1, hc1, hg1, hq1, rfl, ho, b⟩
      have B22 : Hid (Below w.heap.size w wd22) := Lib.hid (below_of B21.out B21.out.size b)
      have Z22 : Hid (wd21.heap.size ≤ wd22.heap.size) := Lib.hid b.size
      have K0_22 : Hid (BlkL wd22 (w.heap.size) [.float .f32 m0, .float .f32 d0, .float .f32 s0]) := Lib.hid (K0_21.out.below b)
      have Xc_18 : Hid (OwnII wd22 wd3.heap.size cR1 cg1 cq1 (croL m0 d0 s0 a1 a2)) := Lib.hid (Xc_17.out.below b)
      have XM_5 : Hid (OwnII wd22 wd7.heap.size gR1 gg1 gq1 (marksII 1 (croL m0 d0 s0 a1 a2).length)) := Lib.hid (XM_4.out.below b)
      have Xz1_2 : Hid (OwnOI wd22 wd19.heap.size (some ⟨z1, 0, none⟩) z1 a1) := Lib.hid (Xz1_1.out.below b)
      have Xz2_1 : Hid (OwnO wd22 wd20.heap.size (some ⟨z2, 0, none⟩) z2 a2) := Lib.hid (Xz2.out.below b)
      clear K0x0 K0x1 K0x2
      clear K0_21 Xc_17 XM_4 Xz1_1 Xz2
      have Xh : Hid (OwnII wd22 wd21.heap.size hR1 hg1 hq1 (croL m0 d0 s0 a1 a2)) := Lib.hid (ho)
      have Xhbd := Xh
      clear ho
      clear b
      obtain ⟨K0x0, K0x1, K0x2⟩ := K0_22.out.three
      go_wp2_with fail
      refine (l_eqII _ _ _ _ (croL m0 d0 s0 a1 a2) _ Xh.out.fl Xc_18.out.fl HF.out).mono ?_
      rintro e wd23 ⟨nq, rfl, hw⟩
      have b : Below wd22.heap.size wd22 wd23 := by rw [hw]; repeat (first | exact Below.refl _ _ | refine below_draws ?_ _)
      clear hw
      have B23 : Hid (Below w.heap.size w wd23) := Lib.hid (below_of B22.out B22.out.size b)
      have Z23 : Hid (wd22.heap.size ≤ wd23.heap.size) := Lib.hid b.size
      have K0_23 : Hid (BlkL wd23 (w.heap.size) [.float .f32 m0, .float .f32 d0, .float .f32 s0]) := Lib.hid (K0_22.out.below b)
      have Xc_19 : Hid (OwnII wd23 wd3.heap.size cR1 cg1 cq1 (croL m0 d0 s0 a1 a2)) := Lib.hid (Xc_18.out.below b)
      have XM_6 : Hid (OwnII wd23 wd7.heap.size gR1 gg1 gq1 (marksII 1 (croL m0 d0 s0 a1 a2).length)) := Lib.hid (XM_5.out.below b)
      have Xh_1 : Hid (OwnII wd23 wd21.heap.size hR1 hg1 hq1 (croL m0 d0 s0 a1 a2)) := Lib.hid (Xh.out.below b)
      clear K0x0 K0x1 K0x2
      clear K0_22 Xc_18 XM_5 Xh
      clear b
      obtain ⟨K0x0, K0x1, K0x2⟩ := K0_23.out.three
      go_wp2_with fail
      refine (l_heldII _ _ _ 1 _ _ _ _ (XM_6.out) HF.out (by omega) _ rfl).mono ?_
      rintro e wd24 ⟨nq, rfl, hw⟩
      have b : Below wd23.heap.size wd23 wd24 := by rw [hw]; repeat (first | exact Below.refl _ _ | refine below_draws ?_ _)
      clear hw
      have B24 : Hid (Below w.heap.size w wd24) := Lib.hid (below_of B23.out B23.out.size b)
      have Z24 : Hid (wd23.heap.size ≤ wd24.heap.size) := Lib.hid b.size
      have K0_24 : Hid (BlkL wd24 (w.heap.size) [.float .f32 m0, .float .f32 d0, .float .f32 s0]) := Lib.hid (K0_23.out.below b)
      have Xc_20 : Hid (OwnII wd24 wd3.heap.size cR1 cg1 cq1 (croL m0 d0 s0 a1 a2)) := Lib.hid (Xc_19.out.below b)
      have XM_7 : Hid (OwnII wd24 wd7.heap.size gR1 gg1 gq1 (marksII 1 (croL m0 d0 s0 a1 a2).length)) := Lib.hid (XM_6.out.below b)
      have Xh_2 : Hid (OwnII wd24 wd21.heap.size hR1 hg1 hq1 (croL m0 d0 s0 a1 a2)) := Lib.hid (Xh_1.out.below b)
      clear K0x0 K0x1 K0x2
      clear K0_23 Xc_19 XM_6 Xh_1
      clear b
      obtain ⟨K0x0, K0x1, K0x2⟩ := K0_24.out.three
      go_wp2
      go_ret
      exact ⟨rfl, B24.out⟩
    · skip
      go_enter Try.func9, Try.ntmps9
      go_wp2
      go_ret
      exact ⟨rfl, by first | exact Below.refl _ _ | exact (Below.refl _ _).alloc (Nat.le_refl _) _⟩
  · skip
    go_enter Try.func9, Try.ntmps9
    go_wp2
    go_ret
    exact ⟨rfl, by first | exact Below.refl _ _ | exact (Below.refl _ _).alloc (Nat.le_refl _) _⟩
end Go.Proofs.Ytpmjikchlofebaa

/- The law FnExactRunTower. No statement is proved here. -/
import Derived.Test.YtpchkedgjikpfaaRnT
import Derived.Test.YtpchkedgjikpfaaMarkR
namespace Go.Proofs.Ytpchkedgjikpfaa
open Go Go.RowKit
set_option maxHeartbeats 16000000 in
set_option maxRecDepth 100000 in
theorem law_FnExactRunTower (m0 d0 s0 : Nat) (u1 : Nat) (u2 : Nat) (A3 : Option Addr) (cap3 : Nat) (a3 : List Nat) (u4 : Nat) (w : World) (_hm0 : m0 < words .f32) (_hd0 : d0 < words .f32) (_hs0 : s0 < words .f32) (_hu1 : u1 < words .f32) (_hu2 : u2 < words .f32) (h3 : Fl w A3 a3) (ma3 : a3.length ≤ 9223372036854775807) (_hu4 : u4 < words .f32) :
    Calls Try.prog 7 #[.agg #[.float .f32 m0, .float .f32 d0, .float .f32 s0], .float .f32 u1, .float .f32 u2, .slice A3 a3.length cap3, .float .f32 u4] w fun e w' => e = .returned (.bool true) ∧ Below w.heap.size w w' := by
  have HP3 := Lib.hid h3
  clear h3
  by_cases hn0 : a3.length ≤ 1048576
  · skip
    have HN3 : Hid (a3.length ≤ 1048576) := Lib.hid (by omega)
    have HF : Hid ((runL m0 d0 s0 u1 u2 u4 a3).length ≤ 1048576) := Lib.hid (runL_few m0 d0 s0 u1 u2 u4 a3 HN3.out)
    obtain ⟨w0, hw0⟩ : ∃ x, x = (w.alloc (.cells #[.float .f32 m0, .float .f32 d0, .float .f32 s0] 24)) := ⟨_, rfl⟩
    have B0 : Hid (Below w.heap.size w w0) := Lib.hid (by rw [hw0]; exact (Below.refl _ _).alloc (Nat.le_refl _) _)
    have Z0 : Hid (w0.heap.size = w.heap.size + 1) := Lib.hid (by rw [hw0]; simp)
    have K0 : Hid (BlkL w0 (w.heap.size) [.float .f32 m0, .float .f32 d0, .float .f32 s0]) := Lib.hid (by rw [hw0]; exact blkL_at w #[.float .f32 m0, .float .f32 d0, .float .f32 s0] 24 rfl)
    go_enter Try.func7, Try.ntmps7
    go_wp2_with fail
    rw [← hw0]
    clear hw0
    obtain ⟨K0x0, K0x1, K0x2⟩ := K0.out.three
    go_wp2_with fail
    refine (l_toTower m0 d0 s0 _).mono ?_
    rintro e wd1 ⟨rfl, b⟩
    have B1 : Hid (Below w.heap.size w wd1) := Lib.hid (below_of B0.out B0.out.size b)
    have Z1 : Hid (w0.heap.size ≤ wd1.heap.size) := Lib.hid b.size
    have K0_1 : Hid (BlkL wd1 (w.heap.size) [.float .f32 m0, .float .f32 d0, .float .f32 s0]) := Lib.hid (K0.out.below b)
    clear K0x0 K0x1 K0x2
    clear K0
    clear b
    obtain ⟨K0x0, K0x1, K0x2⟩ := K0_1.out.three
    go_wp2_with fail
    refine (l_toF32N A3 cap3 a3 _ (HP3.out.below B1.out) HN3.out).mono ?_
    rintro e wd2 ⟨rfl, ho, b⟩
    obtain ⟨p3, hp3⟩ : ∃ x, x = wd1.heap.size := ⟨_, rfl⟩
    rw [← hp3] at ho
    rw [← hp3]
    have B2 : Hid (Below w.heap.size w wd2) := Lib.hid (below_of B1.out B1.out.size b)
    have Z2 : Hid (wd1.heap.size ≤ wd2.heap.size) := Lib.hid b.size
    have K0_2 : Hid (BlkL wd2 (w.heap.size) [.float .f32 m0, .float .f32 d0, .float .f32 s0]) := Lib.hid (K0_1.out.below b)
    clear K0x0 K0x1 K0x2
    clear K0_1
    have Xp3 : Hid (OwnO wd2 wd1.heap.size (some ⟨p3, 0, none⟩) p3 a3) := Lib.hid (Own.o ho (by omega))
    have Xp3bd := Xp3
    clear ho b hp3
    obtain ⟨K0x0, K0x1, K0x2⟩ := K0_2.out.three
    go_wp2_with fail
    refine (s_RunTower _ _ a3 m0 d0 s0 u1 u2 u4 _ Xp3.out.fl HN3.out).mono ?_
    rintro e wd3 ⟨cR1, cc1, cg1, rfl, ho, b⟩
    have B3 : Hid (Below w.heap.size w wd3) := Lib.hid (below_of B2.out B2.out.size b)
    have Z3 : Hid (wd2.heap.size ≤ wd3.heap.size) := Lib.hid b.size
    have K0_3 : Hid (BlkL wd3 (w.heap.size) [.float .f32 m0, .float .f32 d0, .float .f32 s0]) := Lib.hid (K0_2.out.below b)
    have Xp3_1 : Hid (OwnO wd3 wd1.heap.size (some ⟨p3, 0, none⟩) p3 a3) := Lib.hid (Xp3.out.below b)
    clear K0x0 K0x1 K0x2
    clear K0_2 Xp3
    have Xc : Hid (OwnO wd3 wd2.heap.size cR1 cg1 (runL m0 d0 s0 u1 u2 u4 a3)) := Lib.hid (ho)
    have Xcbd := Xc
    clear ho
    clear b
    obtain ⟨K0x0, K0x1, K0x2⟩ := K0_3.out.three
    go_wp2_with fail
    refine (l_toF32N A3 cap3 a3 _ (HP3.out.below B3.out) HN3.out).mono ?_
    rintro e wd4 ⟨rfl, ho, b⟩
    obtain ⟨x3, hx3⟩ : ∃ x, x = wd3.heap.size := ⟨_, rfl⟩
    rw [← hx3] at ho
    rw [← hx3]
    have B4 : Hid (Below w.heap.size w wd4) := Lib.hid (below_of B3.out B3.out.size b)
    have Z4 : Hid (wd3.heap.size ≤ wd4.heap.size) := Lib.hid b.size
    have K0_4 : Hid (BlkL wd4 (w.heap.size) [.float .f32 m0, .float .f32 d0, .float .f32 s0]) := Lib.hid (K0_3.out.below b)
    have Xc_1 : Hid (OwnO wd4 wd2.heap.size cR1 cg1 (runL m0 d0 s0 u1 u2 u4 a3)) := Lib.hid (Xc.out.below b)
    clear K0x0 K0x1 K0x2
    clear K0_3 Xc
    have Xx3 : Hid (OwnO wd4 wd3.heap.size (some ⟨x3, 0, none⟩) x3 a3) := Lib.hid (Own.o ho (by omega))
    have Xx3bd := Xx3
    clear ho b hx3
    obtain ⟨K0x0, K0x1, K0x2⟩ := K0_4.out.three
    go_wp2_with fail
    refine (l_toTower m0 d0 s0 _).mono ?_
    rintro e wd5 ⟨rfl, b⟩
    have B5 : Hid (Below w.heap.size w wd5) := Lib.hid (below_of B4.out B4.out.size b)
    have Z5 : Hid (wd4.heap.size ≤ wd5.heap.size) := Lib.hid b.size
    have K0_5 : Hid (BlkL wd5 (w.heap.size) [.float .f32 m0, .float .f32 d0, .float .f32 s0]) := Lib.hid (K0_4.out.below b)
    have Xc_2 : Hid (OwnO wd5 wd2.heap.size cR1 cg1 (runL m0 d0 s0 u1 u2 u4 a3)) := Lib.hid (Xc_1.out.below b)
    have Xx3_1 : Hid (OwnO wd5 wd3.heap.size (some ⟨x3, 0, none⟩) x3 a3) := Lib.hid (Xx3.out.below b)
    clear K0x0 K0x1 K0x2
    clear K0_4 Xc_1 Xx3
    clear b
    obtain ⟨K0x0, K0x1, K0x2⟩ := K0_5.out.three
    go_wp2_with fail
    refine (i_RunTower _ _ a3 m0 d0 s0 u1 u2 u4 _ Xx3_1.out.fl HN3.out).mono ?_
    rintro e wd6 ⟨gR1, gc1, gg1, rfl, ho, b⟩
    have B6 : Hid (Below w.heap.size w wd6) := Lib.hid (below_of B5.out B5.out.size b)
    have Z6 : Hid (wd5.heap.size ≤ wd6.heap.size) := Lib.hid b.size
    have K0_6 : Hid (BlkL wd6 (w.heap.size) [.float .f32 m0, .float .f32 d0, .float .f32 s0]) := Lib.hid (K0_5.out.below b)
    have Xc_3 : Hid (OwnO wd6 wd2.heap.size cR1 cg1 (runL m0 d0 s0 u1 u2 u4 a3)) := Lib.hid (Xc_2.out.below b)
    have Xx3_2 : Hid (OwnO wd6 wd3.heap.size (some ⟨x3, 0, none⟩) x3 a3) := Lib.hid (Xx3_1.out.below b)
    clear K0x0 K0x1 K0x2
    clear K0_5 Xc_2 Xx3_1
    have Xg : Hid (OwnO wd6 wd5.heap.size gR1 gg1 (runL m0 d0 s0 u1 u2 u4 a3)) := Lib.hid (ho)
    have Xgbd := Xg
    clear ho
    clear b
    obtain ⟨K0x0, K0x1, K0x2⟩ := K0_6.out.three
    go_wp2_with fail
    refine (l_eqF32 _ _ _ _ (runL m0 d0 s0 u1 u2 u4 a3) _ Xg.out.fl Xc_3.out.fl HF.out).mono ?_
    rintro e wd7 ⟨nq, rfl, hw⟩
    have b : Below wd6.heap.size wd6 wd7 := by rw [hw]; repeat (first | exact Below.refl _ _ | refine below_draws ?_ _)
    clear hw
    have B7 : Hid (Below w.heap.size w wd7) := Lib.hid (below_of B6.out B6.out.size b)
    have Z7 : Hid (wd6.heap.size ≤ wd7.heap.size) := Lib.hid b.size
    have K0_7 : Hid (BlkL wd7 (w.heap.size) [.float .f32 m0, .float .f32 d0, .float .f32 s0]) := Lib.hid (K0_6.out.below b)
    have Xc_4 : Hid (OwnO wd7 wd2.heap.size cR1 cg1 (runL m0 d0 s0 u1 u2 u4 a3)) := Lib.hid (Xc_3.out.below b)
    have Xx3_3 : Hid (OwnO wd7 wd3.heap.size (some ⟨x3, 0, none⟩) x3 a3) := Lib.hid (Xx3_2.out.below b)
    have Xg_1 : Hid (OwnO wd7 wd5.heap.size gR1 gg1 (runL m0 d0 s0 u1 u2 u4 a3)) := Lib.hid (Xg.out.below b)
    clear K0x0 K0x1 K0x2
    clear K0_6 Xc_3 Xx3_2 Xg
    clear b
    obtain ⟨K0x0, K0x1, K0x2⟩ := K0_7.out.three
    go_wp2_with fail
    refine (l_toF32N A3 cap3 a3 _ (HP3.out.below B7.out) HN3.out).mono ?_
    rintro e wd8 ⟨rfl, ho, b⟩
    obtain ⟨y3, hy3⟩ : ∃ x, x = wd7.heap.size := ⟨_, rfl⟩
    rw [← hy3] at ho
    rw [← hy3]
    have B8 : Hid (Below w.heap.size w wd8) := Lib.hid (below_of B7.out B7.out.size b)
    have Z8 : Hid (wd7.heap.size ≤ wd8.heap.size) := Lib.hid b.size
    have K0_8 : Hid (BlkL wd8 (w.heap.size) [.float .f32 m0, .float .f32 d0, .float .f32 s0]) := Lib.hid (K0_7.out.below b)
    have Xc_5 : Hid (OwnO wd8 wd2.heap.size cR1 cg1 (runL m0 d0 s0 u1 u2 u4 a3)) := Lib.hid (Xc_4.out.below b)
    have Xx3_4 : Hid (OwnO wd8 wd3.heap.size (some ⟨x3, 0, none⟩) x3 a3) := Lib.hid (Xx3_3.out.below b)
    have Xg_2 : Hid (OwnO wd8 wd5.heap.size gR1 gg1 (runL m0 d0 s0 u1 u2 u4 a3)) := Lib.hid (Xg_1.out.below b)
    clear K0x0 K0x1 K0x2
    clear K0_7 Xc_4 Xx3_3 Xg_1
    have Xy3 : Hid (OwnO wd8 wd7.heap.size (some ⟨y3, 0, none⟩) y3 a3) := Lib.hid (Own.o ho (by omega))
    have Xy3bd := Xy3
    clear ho b hy3
    obtain ⟨K0x0, K0x1, K0x2⟩ := K0_8.out.three
    go_wp2_with fail
    refine (l_eqF32 _ _ _ _ a3 _ Xx3_4.out.fl Xy3.out.fl HN3.out).mono ?_
    rintro e wd9 ⟨nq, rfl, hw⟩
    have b : Below wd8.heap.size wd8 wd9 := by rw [hw]; repeat (first | exact Below.refl _ _ | refine below_draws ?_ _)
    clear hw
    have B9 : Hid (Below w.heap.size w wd9) := Lib.hid (below_of B8.out B8.out.size b)
    have Z9 : Hid (wd8.heap.size ≤ wd9.heap.size) := Lib.hid b.size
    have K0_9 : Hid (BlkL wd9 (w.heap.size) [.float .f32 m0, .float .f32 d0, .float .f32 s0]) := Lib.hid (K0_8.out.below b)
    have Xc_6 : Hid (OwnO wd9 wd2.heap.size cR1 cg1 (runL m0 d0 s0 u1 u2 u4 a3)) := Lib.hid (Xc_5.out.below b)
    have Xx3_5 : Hid (OwnO wd9 wd3.heap.size (some ⟨x3, 0, none⟩) x3 a3) := Lib.hid (Xx3_4.out.below b)
    have Xg_3 : Hid (OwnO wd9 wd5.heap.size gR1 gg1 (runL m0 d0 s0 u1 u2 u4 a3)) := Lib.hid (Xg_2.out.below b)
    have Xy3_1 : Hid (OwnO wd9 wd7.heap.size (some ⟨y3, 0, none⟩) y3 a3) := Lib.hid (Xy3.out.below b)
    clear K0x0 K0x1 K0x2
    clear K0_8 Xc_5 Xx3_4 Xg_2 Xy3
    clear b
    obtain ⟨K0x0, K0x1, K0x2⟩ := K0_9.out.three
    go_wp2_with fail
    refine (l_markF32 _ _ _ (1) a3 _ (Xx3_5.out).a HN3.out (by omega) _ (by omega)).mono ?_
    rintro e wd10 ⟨rfl, -, t⟩
    have B10 : Hid (Below w.heap.size w wd10) := Lib.hid (t.2.2.2 w B9.out (by intro b hh; have h1 := Xx3bd.out.bd hh; have := Z0.out; have := Z1.out; have := Z2.out; have := Z3.out; have := Z4.out; have := Z5.out; have := Z6.out; have := Z7.out; have := Z8.out; have := Z9.out; omega))
    have Z10 : Hid (wd9.heap.size ≤ wd10.heap.size) := Lib.hid t.1
    have K0_10 : Hid (BlkL wd10 (w.heap.size) [.float .f32 m0, .float .f32 d0, .float .f32 s0]) := Lib.hid (K0_9.out.turnS t (by intro hh; have h1 := Xx3bd.out.bd hh; have := Z0.out; have := Z1.out; have := Z2.out; have := Z3.out; have := Z4.out; have := Z5.out; have := Z6.out; have := Z7.out; have := Z8.out; have := Z9.out; omega))
    have Xc_7 : Hid (OwnO wd10 wd2.heap.size cR1 cg1 (runL m0 d0 s0 u1 u2 u4 a3)) := Lib.hid (Xc_6.out.turnS t (by intro c hc hh; have h1 := Xx3bd.out.bd hh; have h2 := Xcbd.out.bd hc; have := Z0.out; have := Z1.out; have := Z2.out; have := Z3.out; have := Z4.out; have := Z5.out; have := Z6.out; have := Z7.out; have := Z8.out; have := Z9.out; omega))
    have Xg_4 : Hid (OwnO wd10 wd5.heap.size gR1 gg1 (runL m0 d0 s0 u1 u2 u4 a3)) := Lib.hid (Xg_3.out.turnS t (by intro c hc hh; have h1 := Xx3bd.out.bd hh; have h2 := Xgbd.out.bd hc; have := Z0.out; have := Z1.out; have := Z2.out; have := Z3.out; have := Z4.out; have := Z5.out; have := Z6.out; have := Z7.out; have := Z8.out; have := Z9.out; omega))
    clear K0x0 K0x1 K0x2
    clear K0_9 Xc_6 Xg_3
    clear t
    have hk3 : (0 : Int) ≤ ((1 : Nat) : Int) + (a3.length : Int) := by omega
    obtain ⟨K0x0, K0x1, K0x2⟩ := K0_10.out.three
    go_wp2_with fail
    refine (l_eqF32 _ _ _ _ (runL m0 d0 s0 u1 u2 u4 a3) _ Xg_4.out.fl Xc_7.out.fl HF.out).mono ?_
    rintro e wd11 ⟨nq, rfl, hw⟩
    have b : Below wd10.heap.size wd10 wd11 := by rw [hw]; repeat (first | exact Below.refl _ _ | refine below_draws ?_ _)
    clear hw
    have B11 : Hid (Below w.heap.size w wd11) := Lib.hid (below_of B10.out B10.out.size b)
    have Z11 : Hid (wd10.heap.size ≤ wd11.heap.size) := Lib.hid b.size
    have K0_11 : Hid (BlkL wd11 (w.heap.size) [.float .f32 m0, .float .f32 d0, .float .f32 s0]) := Lib.hid (K0_10.out.below b)
    have Xc_8 : Hid (OwnO wd11 wd2.heap.size cR1 cg1 (runL m0 d0 s0 u1 u2 u4 a3)) := Lib.hid (Xc_7.out.below b)
    have Xg_5 : Hid (OwnO wd11 wd5.heap.size gR1 gg1 (runL m0 d0 s0 u1 u2 u4 a3)) := Lib.hid (Xg_4.out.below b)
    clear K0x0 K0x1 K0x2
    clear K0_10 Xc_7 Xg_4
    clear b
    obtain ⟨K0x0, K0x1, K0x2⟩ := K0_11.out.three
    go_wp2_with fail
    refine (l_markF32 _ _ _ 1 (runL m0 d0 s0 u1 u2 u4 a3) _ (Xg_5.out).a HF.out (by omega) _ rfl).mono ?_
    rintro e wd12 ⟨rfl, om, t⟩
    have B12 : Hid (Below w.heap.size w wd12) := Lib.hid (t.2.2.2 w B11.out (by intro b hh; have h1 := Xgbd.out.bd hh; have := Z0.out; have := Z1.out; have := Z2.out; have := Z3.out; have := Z4.out; have := Z5.out; have := Z6.out; have := Z7.out; have := Z8.out; have := Z9.out; have := Z10.out; have := Z11.out; omega))
    have Z12 : Hid (wd11.heap.size ≤ wd12.heap.size) := Lib.hid t.1
    have K0_12 : Hid (BlkL wd12 (w.heap.size) [.float .f32 m0, .float .f32 d0, .float .f32 s0]) := Lib.hid (K0_11.out.turnS t (by intro hh; have h1 := Xgbd.out.bd hh; have := Z0.out; have := Z1.out; have := Z2.out; have := Z3.out; have := Z4.out; have := Z5.out; have := Z6.out; have := Z7.out; have := Z8.out; have := Z9.out; have := Z10.out; have := Z11.out; omega))
    have Xc_9 : Hid (OwnO wd12 wd2.heap.size cR1 cg1 (runL m0 d0 s0 u1 u2 u4 a3)) := Lib.hid (Xc_8.out.turnS t (by intro c hc hh; have h1 := Xgbd.out.bd hh; have h2 := Xcbd.out.bd hc; have := Z0.out; have := Z1.out; have := Z2.out; have := Z3.out; have := Z4.out; have := Z5.out; have := Z6.out; have := Z7.out; have := Z8.out; have := Z9.out; have := Z10.out; have := Z11.out; omega))
    have XM : Hid (OwnO wd12 wd5.heap.size gR1 gg1 (marks 1 (runL m0 d0 s0 u1 u2 u4 a3).length)) := Lib.hid (OwnO.mk' Xg_5.out (marks_length _ _) om)
    clear K0x0 K0x1 K0x2
    clear K0_11 Xc_8
    clear t om
    have hm : (0 : Int) ≤ ((1 : Nat) : Int) + ((runL m0 d0 s0 u1 u2 u4 a3).length : Int) := by omega
    obtain ⟨K0x0, K0x1, K0x2⟩ := K0_12.out.three
    go_wp2_with fail
    refine (l_heldF32 _ _ _ 1 _ _ (XM.out).a HF.out (by omega) _ rfl).mono ?_
    rintro e wd13 ⟨nq, rfl, hw⟩
    have b : Below wd12.heap.size wd12 wd13 := by rw [hw]; repeat (first | exact Below.refl _ _ | refine below_draws ?_ _)
    clear hw
    have B13 : Hid (Below w.heap.size w wd13) := Lib.hid (below_of B12.out B12.out.size b)
    have Z13 : Hid (wd12.heap.size ≤ wd13.heap.size) := Lib.hid b.size
    have K0_13 : Hid (BlkL wd13 (w.heap.size) [.float .f32 m0, .float .f32 d0, .float .f32 s0]) := Lib.hid (K0_12.out.below b)
    have Xc_10 : Hid (OwnO wd13 wd2.heap.size cR1 cg1 (runL m0 d0 s0 u1 u2 u4 a3)) := Lib.hid (Xc_9.out.below b)
    have XM_1 : Hid (OwnO wd13 wd5.heap.size gR1 gg1 (marks 1 (runL m0 d0 s0 u1 u2 u4 a3).length)) := Lib.hid (XM.out.below b)
    clear K0x0 K0x1 K0x2
    clear K0_12 Xc_9 XM
    clear b
    obtain ⟨K0x0, K0x1, K0x2⟩ := K0_13.out.three
    go_wp2_with fail
    refine (l_toTower m0 d0 s0 _).mono ?_
    rintro e wd14 ⟨rfl, b⟩
    have B14 : Hid (Below w.heap.size w wd14) := Lib.hid (below_of B13.out B13.out.size b)
    have Z14 : Hid (wd13.heap.size ≤ wd14.heap.size) := Lib.hid b.size
    have K0_14 : Hid (BlkL wd14 (w.heap.size) [.float .f32 m0, .float .f32 d0, .float .f32 s0]) := Lib.hid (K0_13.out.below b)
    have Xc_11 : Hid (OwnO wd14 wd2.heap.size cR1 cg1 (runL m0 d0 s0 u1 u2 u4 a3)) := Lib.hid (Xc_10.out.below b)
    have XM_2 : Hid (OwnO wd14 wd5.heap.size gR1 gg1 (marks 1 (runL m0 d0 s0 u1 u2 u4 a3).length)) := Lib.hid (XM_1.out.below b)
    clear K0x0 K0x1 K0x2
    clear K0_13 Xc_10 XM_1
    clear b
    obtain ⟨K0x0, K0x1, K0x2⟩ := K0_14.out.three
    go_wp2_with fail
    refine (l_toF32N A3 cap3 a3 _ (HP3.out.below B14.out) HN3.out).mono ?_
    rintro e wd15 ⟨rfl, ho, b⟩
    obtain ⟨z3, hz3⟩ : ∃ x, x = wd14.heap.size := ⟨_, rfl⟩
    rw [← hz3] at ho
    rw [← hz3]
    have B15 : Hid (Below w.heap.size w wd15) := Lib.hid (below_of B14.out B14.out.size b)
    have Z15 : Hid (wd14.heap.size ≤ wd15.heap.size) := Lib.hid b.size
    have K0_15 : Hid (BlkL wd15 (w.heap.size) [.float .f32 m0, .float .f32 d0, .float .f32 s0]) := Lib.hid (K0_14.out.below b)
    have Xc_12 : Hid (OwnO wd15 wd2.heap.size cR1 cg1 (runL m0 d0 s0 u1 u2 u4 a3)) := Lib.hid (Xc_11.out.below b)
    have XM_3 : Hid (OwnO wd15 wd5.heap.size gR1 gg1 (marks 1 (runL m0 d0 s0 u1 u2 u4 a3).length)) := Lib.hid (XM_2.out.below b)
    clear K0x0 K0x1 K0x2
    clear K0_14 Xc_11 XM_2
    have Xz3 : Hid (OwnO wd15 wd14.heap.size (some ⟨z3, 0, none⟩) z3 a3) := Lib.hid (Own.o ho (by omega))
    have Xz3bd := Xz3
    clear ho b hz3
    obtain ⟨K0x0, K0x1, K0x2⟩ := K0_15.out.three
    go_wp2_with fail
    refine (i_RunTower _ _ a3 m0 d0 s0 u1 u2 u4 _ Xz3.out.fl HN3.out).mono ?_
    rintro e wd16 ⟨hR1, hc1, hg1, rfl, ho, b⟩
    have B16 : Hid (Below w.heap.size w wd16) := Lib.hid (below_of B15.out B15.out.size b)
    have Z16 : Hid (wd15.heap.size ≤ wd16.heap.size) := Lib.hid b.size
    have K0_16 : Hid (BlkL wd16 (w.heap.size) [.float .f32 m0, .float .f32 d0, .float .f32 s0]) := Lib.hid (K0_15.out.below b)
    have Xc_13 : Hid (OwnO wd16 wd2.heap.size cR1 cg1 (runL m0 d0 s0 u1 u2 u4 a3)) := Lib.hid (Xc_12.out.below b)
    have XM_4 : Hid (OwnO wd16 wd5.heap.size gR1 gg1 (marks 1 (runL m0 d0 s0 u1 u2 u4 a3).length)) := Lib.hid (XM_3.out.below b)
    have Xz3_1 : Hid (OwnO wd16 wd14.heap.size (some ⟨z3, 0, none⟩) z3 a3) := Lib.hid (Xz3.out.below b)
    clear K0x0 K0x1 K0x2
    clear K0_15 Xc_12 XM_3 Xz3
    have Xh : Hid (OwnO wd16 wd15.heap.size hR1 hg1 (runL m0 d0 s0 u1 u2 u4 a3)) := Lib.hid (ho)
    have Xhbd := Xh
    clear ho
    clear b
    obtain ⟨K0x0, K0x1, K0x2⟩ := K0_16.out.three
    go_wp2_with fail
    refine (l_eqF32 _ _ _ _ (runL m0 d0 s0 u1 u2 u4 a3) _ Xh.out.fl Xc_13.out.fl HF.out).mono ?_
    rintro e wd17 ⟨nq, rfl, hw⟩
    have b : Below wd16.heap.size wd16 wd17 := by rw [hw]; repeat (first | exact Below.refl _ _ | refine below_draws ?_ _)
    clear hw
    have B17 : Hid (Below w.heap.size w wd17) := Lib.hid (below_of B16.out B16.out.size b)
    have Z17 : Hid (wd16.heap.size ≤ wd17.heap.size) := Lib.hid b.size
    have K0_17 : Hid (BlkL wd17 (w.heap.size) [.float .f32 m0, .float .f32 d0, .float .f32 s0]) := Lib.hid (K0_16.out.below b)
    have Xc_14 : Hid (OwnO wd17 wd2.heap.size cR1 cg1 (runL m0 d0 s0 u1 u2 u4 a3)) := Lib.hid (Xc_13.out.below b)
    have XM_5 : Hid (OwnO wd17 wd5.heap.size gR1 gg1 (marks 1 (runL m0 d0 s0 u1 u2 u4 a3).length)) := Lib.hid (XM_4.out.below b)
    have Xh_1 : Hid (OwnO wd17 wd15.heap.size hR1 hg1 (runL m0 d0 s0 u1 u2 u4 a3)) := Lib.hid (Xh.out.below b)
    clear K0x0 K0x1 K0x2
    clear K0_16 Xc_13 XM_4 Xh
    clear b
    obtain ⟨K0x0, K0x1, K0x2⟩ := K0_17.out.three
    go_wp2_with fail
    refine (l_heldF32 _ _ _ 1 _ _ (XM_5.out).a HF.out (by omega) _ rfl).mono ?_
    rintro e wd18 ⟨nq, rfl, hw⟩
    have b : Below wd17.heap.size wd17 wd18 := by rw [hw]; repeat (first | exact Below.refl _ _ | refine below_draws ?_ _)
    clear hw
    have B18 : Hid (Below w.heap.size w wd18) := Lib.hid (below_of B17.out B17.out.size b)
    have Z18 : Hid (wd17.heap.size ≤ wd18.heap.size) := Lib.hid b.size
    have K0_18 : Hid (BlkL wd18 (w.heap.size) [.float .f32 m0, .float .f32 d0, .float .f32 s0]) := Lib.hid (K0_17.out.below b)
    have Xc_15 : Hid (OwnO wd18 wd2.heap.size cR1 cg1 (runL m0 d0 s0 u1 u2 u4 a3)) := Lib.hid (Xc_14.out.below b)
    have XM_6 : Hid (OwnO wd18 wd5.heap.size gR1 gg1 (marks 1 (runL m0 d0 s0 u1 u2 u4 a3).length)) := Lib.hid (XM_5.out.below b)
    have Xh_2 : Hid (OwnO wd18 wd15.heap.size hR1 hg1 (runL m0 d0 s0 u1 u2 u4 a3)) := Lib.hid (Xh_1.out.below b)
    clear K0x0 K0x1 K0x2
    clear K0_17 Xc_14 XM_5 Xh_1
    clear b
    obtain ⟨K0x0, K0x1, K0x2⟩ := K0_18.out.three
    go_wp2
    go_ret
    exact ⟨rfl, B18.out⟩
  · skip
    go_enter Try.func7, Try.ntmps7
    go_wp2
    go_ret
    exact ⟨rfl, by first | exact Below.refl _ _ | exact (Below.refl _ _).alloc (Nat.le_refl _) _⟩
end Go.Proofs.Ytpchkedgjikpfaa

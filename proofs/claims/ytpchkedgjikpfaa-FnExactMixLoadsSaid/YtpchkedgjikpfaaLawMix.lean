/- The law FnExactMixLoads. No statement is proved here. -/
import Derived.Test.YtpchkedgjikpfaaMix
import Derived.Test.YtpchkedgjikpfaaMarkR
namespace Go.Proofs.Ytpchkedgjikpfaa
open Go Go.RowKit
set_option maxHeartbeats 16000000 in
set_option maxRecDepth 100000 in
theorem law_FnExactMixLoads (A0 : Option Addr) (cap0 : Nat) (a0 : List Nat) (A1 : Option Addr) (cap1 : Nat) (a1 : List Nat) (u2 : Nat) (u3 : Nat) (w : World) (h0 : Fl w A0 a0) (ma0 : a0.length ≤ 9223372036854775807) (h1 : Fl w A1 a1) (ma1 : a1.length ≤ 9223372036854775807) (_hu2 : u2 < words .f32) (_hu3 : u3 < words .f32) :
    Calls Try.prog 10 #[.slice A0 a0.length cap0, .slice A1 a1.length cap1, .float .f32 u2, .float .f32 u3] w fun e w' => e = .returned (.bool true) ∧ Below w.heap.size w w' := by
  have HP0 := Lib.hid h0
  clear h0
  have HP1 := Lib.hid h1
  clear h1
  by_cases hn0 : a0.length ≤ 1048576
  · skip
    by_cases hn1 : a1.length ≤ 1048576
    · skip
      have HN0 : Hid (a0.length ≤ 1048576) := Lib.hid (by omega)
      have HN1 : Hid (a1.length ≤ 1048576) := Lib.hid (by omega)
      have HF : Hid ((mixL a0 a1 u2 u3).length ≤ 1048576) := Lib.hid (mixL_few a0 a1 u2 u3 HN0.out)
      go_enter Try.func10, Try.ntmps10
      go_wp2_with fail
      refine (l_toF32N A0 cap0 a0 _ (HP0.out) HN0.out).mono ?_
      rintro e wd1 ⟨rfl, ho, b⟩
      obtain ⟨p0, hp0⟩ : ∃ x, x = w.heap.size := ⟨_, rfl⟩
      rw [← hp0] at ho
      rw [← hp0]
      have B1 : Hid (Below w.heap.size w wd1) := Lib.hid b
      have Z1 : Hid (w.heap.size ≤ wd1.heap.size) := Lib.hid b.size
      have Xp0 : Hid (OwnO wd1 w.heap.size (some ⟨p0, 0, none⟩) p0 a0) := Lib.hid (Own.o ho (by omega))
      have Xp0bd := Xp0
      clear ho b hp0
      go_wp2_with fail
      refine (l_toF32N A1 cap1 a1 _ (HP1.out.below B1.out) HN1.out).mono ?_
      rintro e wd2 ⟨rfl, ho, b⟩
      obtain ⟨p1, hp1⟩ : ∃ x, x = wd1.heap.size := ⟨_, rfl⟩
      rw [← hp1] at ho
      rw [← hp1]
      have B2 : Hid (Below w.heap.size w wd2) := Lib.hid (below_of B1.out B1.out.size b)
      have Z2 : Hid (wd1.heap.size ≤ wd2.heap.size) := Lib.hid b.size
      have Xp0_1 : Hid (OwnO wd2 w.heap.size (some ⟨p0, 0, none⟩) p0 a0) := Lib.hid (Xp0.out.below b)
      clear Xp0
      have Xp1 : Hid (OwnO wd2 wd1.heap.size (some ⟨p1, 0, none⟩) p1 a1) := Lib.hid (Own.o ho (by omega))
      have Xp1bd := Xp1
      clear ho b hp1
      go_wp2_with fail
      refine (s_MixLoads _ _ _ _ a0 a1 u2 u3 _ Xp0_1.out.fl Xp1.out.fl HN0.out HN1.out).mono ?_
      rintro e wd3 ⟨cR1, cc1, cg1, rfl, ho, b⟩
      have B3 : Hid (Below w.heap.size w wd3) := Lib.hid (below_of B2.out B2.out.size b)
      have Z3 : Hid (wd2.heap.size ≤ wd3.heap.size) := Lib.hid b.size
      have Xp0_2 : Hid (OwnO wd3 w.heap.size (some ⟨p0, 0, none⟩) p0 a0) := Lib.hid (Xp0_1.out.below b)
      have Xp1_1 : Hid (OwnO wd3 wd1.heap.size (some ⟨p1, 0, none⟩) p1 a1) := Lib.hid (Xp1.out.below b)
      clear Xp0_1 Xp1
      have Xc : Hid (OwnO wd3 wd2.heap.size cR1 cg1 (mixL a0 a1 u2 u3)) := Lib.hid (ho)
      have Xcbd := Xc
      clear ho
      clear b
      go_wp2_with fail
      refine (l_toF32N A0 cap0 a0 _ (HP0.out.below B3.out) HN0.out).mono ?_
      rintro e wd4 ⟨rfl, ho, b⟩
      obtain ⟨x0, hx0⟩ : ∃ x, x = wd3.heap.size := ⟨_, rfl⟩
      rw [← hx0] at ho
      rw [← hx0]
      have B4 : Hid (Below w.heap.size w wd4) := Lib.hid (below_of B3.out B3.out.size b)
      have Z4 : Hid (wd3.heap.size ≤ wd4.heap.size) := Lib.hid b.size
      have Xc_1 : Hid (OwnO wd4 wd2.heap.size cR1 cg1 (mixL a0 a1 u2 u3)) := Lib.hid (Xc.out.below b)
      clear Xc
      have Xx0 : Hid (OwnO wd4 wd3.heap.size (some ⟨x0, 0, none⟩) x0 a0) := Lib.hid (Own.o ho (by omega))
      have Xx0bd := Xx0
      clear ho b hx0
      go_wp2_with fail
      refine (l_toF32N A1 cap1 a1 _ (HP1.out.below B4.out) HN1.out).mono ?_
      rintro e wd5 ⟨rfl, ho, b⟩
      obtain ⟨x1, hx1⟩ : ∃ x, x = wd4.heap.size := ⟨_, rfl⟩
      rw [← hx1] at ho
      rw [← hx1]
      have B5 : Hid (Below w.heap.size w wd5) := Lib.hid (below_of B4.out B4.out.size b)
      have Z5 : Hid (wd4.heap.size ≤ wd5.heap.size) := Lib.hid b.size
      have Xc_2 : Hid (OwnO wd5 wd2.heap.size cR1 cg1 (mixL a0 a1 u2 u3)) := Lib.hid (Xc_1.out.below b)
      have Xx0_1 : Hid (OwnO wd5 wd3.heap.size (some ⟨x0, 0, none⟩) x0 a0) := Lib.hid (Xx0.out.below b)
      clear Xc_1 Xx0
      have Xx1 : Hid (OwnO wd5 wd4.heap.size (some ⟨x1, 0, none⟩) x1 a1) := Lib.hid (Own.o ho (by omega))
      have Xx1bd := Xx1
      clear ho b hx1
      go_wp2_with fail
      refine (i_MixLoads _ _ _ _ a0 a1 u2 u3 _ Xx0_1.out.fl Xx1.out.fl HN0.out HN1.out).mono ?_
      rintro e wd6 ⟨gR1, gc1, gg1, rfl, ho, b⟩
      have B6 : Hid (Below w.heap.size w wd6) := Lib.hid (below_of B5.out B5.out.size b)
      have Z6 : Hid (wd5.heap.size ≤ wd6.heap.size) := Lib.hid b.size
      have Xc_3 : Hid (OwnO wd6 wd2.heap.size cR1 cg1 (mixL a0 a1 u2 u3)) := Lib.hid (Xc_2.out.below b)
      have Xx0_2 : Hid (OwnO wd6 wd3.heap.size (some ⟨x0, 0, none⟩) x0 a0) := Lib.hid (Xx0_1.out.below b)
      have Xx1_1 : Hid (OwnO wd6 wd4.heap.size (some ⟨x1, 0, none⟩) x1 a1) := Lib.hid (Xx1.out.below b)
      clear Xc_2 Xx0_1 Xx1
      have Xg : Hid (OwnO wd6 wd5.heap.size gR1 gg1 (mixL a0 a1 u2 u3)) := Lib.hid (ho)
      have Xgbd := Xg
      clear ho
      clear b
      go_wp2_with fail
      refine (l_eqF32 _ _ _ _ (mixL a0 a1 u2 u3) _ Xg.out.fl Xc_3.out.fl HF.out).mono ?_
      rintro e wd7 ⟨nq, rfl, hw⟩
      have b : Below wd6.heap.size wd6 wd7 := by rw [hw]; repeat (first | exact Below.refl _ _ | refine below_draws ?_ _)
      clear hw
      have B7 : Hid (Below w.heap.size w wd7) := Lib.hid (below_of B6.out B6.out.size b)
      have Z7 : Hid (wd6.heap.size ≤ wd7.heap.size) := Lib.hid b.size
      have Xc_4 : Hid (OwnO wd7 wd2.heap.size cR1 cg1 (mixL a0 a1 u2 u3)) := Lib.hid (Xc_3.out.below b)
      have Xx0_3 : Hid (OwnO wd7 wd3.heap.size (some ⟨x0, 0, none⟩) x0 a0) := Lib.hid (Xx0_2.out.below b)
      have Xx1_2 : Hid (OwnO wd7 wd4.heap.size (some ⟨x1, 0, none⟩) x1 a1) := Lib.hid (Xx1_1.out.below b)
      have Xg_1 : Hid (OwnO wd7 wd5.heap.size gR1 gg1 (mixL a0 a1 u2 u3)) := Lib.hid (Xg.out.below b)
      clear Xc_3 Xx0_2 Xx1_1 Xg
      clear b
      go_wp2_with fail
      refine (l_toF32N A0 cap0 a0 _ (HP0.out.below B7.out) HN0.out).mono ?_
      rintro e wd8 ⟨rfl, ho, b⟩
      obtain ⟨y0, hy0⟩ : ∃ x, x = wd7.heap.size := ⟨_, rfl⟩
      rw [← hy0] at ho
      rw [← hy0]
      have B8 : Hid (Below w.heap.size w wd8) := Lib.hid (below_of B7.out B7.out.size b)
      have Z8 : Hid (wd7.heap.size ≤ wd8.heap.size) := Lib.hid b.size
      have Xc_5 : Hid (OwnO wd8 wd2.heap.size cR1 cg1 (mixL a0 a1 u2 u3)) := Lib.hid (Xc_4.out.below b)
      have Xx0_4 : Hid (OwnO wd8 wd3.heap.size (some ⟨x0, 0, none⟩) x0 a0) := Lib.hid (Xx0_3.out.below b)
      have Xx1_3 : Hid (OwnO wd8 wd4.heap.size (some ⟨x1, 0, none⟩) x1 a1) := Lib.hid (Xx1_2.out.below b)
      have Xg_2 : Hid (OwnO wd8 wd5.heap.size gR1 gg1 (mixL a0 a1 u2 u3)) := Lib.hid (Xg_1.out.below b)
      clear Xc_4 Xx0_3 Xx1_2 Xg_1
      have Xy0 : Hid (OwnO wd8 wd7.heap.size (some ⟨y0, 0, none⟩) y0 a0) := Lib.hid (Own.o ho (by omega))
      have Xy0bd := Xy0
      clear ho b hy0
      go_wp2_with fail
      refine (l_eqF32 _ _ _ _ a0 _ Xx0_4.out.fl Xy0.out.fl HN0.out).mono ?_
      rintro e wd9 ⟨nq, rfl, hw⟩
      have b : Below wd8.heap.size wd8 wd9 := by rw [hw]; repeat (first | exact Below.refl _ _ | refine below_draws ?_ _)
      clear hw
      have B9 : Hid (Below w.heap.size w wd9) := Lib.hid (below_of B8.out B8.out.size b)
      have Z9 : Hid (wd8.heap.size ≤ wd9.heap.size) := Lib.hid b.size
      have Xc_6 : Hid (OwnO wd9 wd2.heap.size cR1 cg1 (mixL a0 a1 u2 u3)) := Lib.hid (Xc_5.out.below b)
      have Xx0_5 : Hid (OwnO wd9 wd3.heap.size (some ⟨x0, 0, none⟩) x0 a0) := Lib.hid (Xx0_4.out.below b)
      have Xx1_4 : Hid (OwnO wd9 wd4.heap.size (some ⟨x1, 0, none⟩) x1 a1) := Lib.hid (Xx1_3.out.below b)
      have Xg_3 : Hid (OwnO wd9 wd5.heap.size gR1 gg1 (mixL a0 a1 u2 u3)) := Lib.hid (Xg_2.out.below b)
      have Xy0_1 : Hid (OwnO wd9 wd7.heap.size (some ⟨y0, 0, none⟩) y0 a0) := Lib.hid (Xy0.out.below b)
      clear Xc_5 Xx0_4 Xx1_3 Xg_2 Xy0
      clear b
      go_wp2_with fail
      refine (l_toF32N A1 cap1 a1 _ (HP1.out.below B9.out) HN1.out).mono ?_
      rintro e wd10 ⟨rfl, ho, b⟩
      obtain ⟨y1, hy1⟩ : ∃ x, x = wd9.heap.size := ⟨_, rfl⟩
      rw [← hy1] at ho
      rw [← hy1]
      have B10 : Hid (Below w.heap.size w wd10) := Lib.hid (below_of B9.out B9.out.size b)
      have Z10 : Hid (wd9.heap.size ≤ wd10.heap.size) := Lib.hid b.size
      have Xc_7 : Hid (OwnO wd10 wd2.heap.size cR1 cg1 (mixL a0 a1 u2 u3)) := Lib.hid (Xc_6.out.below b)
      have Xx0_6 : Hid (OwnO wd10 wd3.heap.size (some ⟨x0, 0, none⟩) x0 a0) := Lib.hid (Xx0_5.out.below b)
      have Xx1_5 : Hid (OwnO wd10 wd4.heap.size (some ⟨x1, 0, none⟩) x1 a1) := Lib.hid (Xx1_4.out.below b)
      have Xg_4 : Hid (OwnO wd10 wd5.heap.size gR1 gg1 (mixL a0 a1 u2 u3)) := Lib.hid (Xg_3.out.below b)
      clear Xc_6 Xx0_5 Xx1_4 Xg_3
      have Xy1 : Hid (OwnO wd10 wd9.heap.size (some ⟨y1, 0, none⟩) y1 a1) := Lib.hid (Own.o ho (by omega))
      have Xy1bd := Xy1
      clear ho b hy1
      go_wp2_with fail
      refine (l_eqF32 _ _ _ _ a1 _ Xx1_5.out.fl Xy1.out.fl HN1.out).mono ?_
      rintro e wd11 ⟨nq, rfl, hw⟩
      have b : Below wd10.heap.size wd10 wd11 := by rw [hw]; repeat (first | exact Below.refl _ _ | refine below_draws ?_ _)
      clear hw
      have B11 : Hid (Below w.heap.size w wd11) := Lib.hid (below_of B10.out B10.out.size b)
      have Z11 : Hid (wd10.heap.size ≤ wd11.heap.size) := Lib.hid b.size
      have Xc_8 : Hid (OwnO wd11 wd2.heap.size cR1 cg1 (mixL a0 a1 u2 u3)) := Lib.hid (Xc_7.out.below b)
      have Xx0_7 : Hid (OwnO wd11 wd3.heap.size (some ⟨x0, 0, none⟩) x0 a0) := Lib.hid (Xx0_6.out.below b)
      have Xx1_6 : Hid (OwnO wd11 wd4.heap.size (some ⟨x1, 0, none⟩) x1 a1) := Lib.hid (Xx1_5.out.below b)
      have Xg_5 : Hid (OwnO wd11 wd5.heap.size gR1 gg1 (mixL a0 a1 u2 u3)) := Lib.hid (Xg_4.out.below b)
      have Xy1_1 : Hid (OwnO wd11 wd9.heap.size (some ⟨y1, 0, none⟩) y1 a1) := Lib.hid (Xy1.out.below b)
      clear Xc_7 Xx0_6 Xx1_5 Xg_4 Xy1
      clear b
      go_wp2_with fail
      refine (l_markF32 _ _ _ (1) a0 _ (Xx0_7.out).a HN0.out (by omega) _ (by omega)).mono ?_
      rintro e wd12 ⟨rfl, -, t⟩
      have B12 : Hid (Below w.heap.size w wd12) := Lib.hid (t.2.2.2 w B11.out (by intro b hh; have h1 := Xx0bd.out.bd hh; have := Z1.out; have := Z2.out; have := Z3.out; have := Z4.out; have := Z5.out; have := Z6.out; have := Z7.out; have := Z8.out; have := Z9.out; have := Z10.out; have := Z11.out; omega))
      have Z12 : Hid (wd11.heap.size ≤ wd12.heap.size) := Lib.hid t.1
      have Xc_9 : Hid (OwnO wd12 wd2.heap.size cR1 cg1 (mixL a0 a1 u2 u3)) := Lib.hid (Xc_8.out.turnS t (by intro c hc hh; have h1 := Xx0bd.out.bd hh; have h2 := Xcbd.out.bd hc; have := Z1.out; have := Z2.out; have := Z3.out; have := Z4.out; have := Z5.out; have := Z6.out; have := Z7.out; have := Z8.out; have := Z9.out; have := Z10.out; have := Z11.out; omega))
      have Xx1_7 : Hid (OwnO wd12 wd4.heap.size (some ⟨x1, 0, none⟩) x1 a1) := Lib.hid (Xx1_6.out.turnS t (by intro c hc hh; have h1 := Xx0bd.out.bd hh; have h2 := Xx1bd.out.bd hc; have := Z1.out; have := Z2.out; have := Z3.out; have := Z4.out; have := Z5.out; have := Z6.out; have := Z7.out; have := Z8.out; have := Z9.out; have := Z10.out; have := Z11.out; omega))
      have Xg_6 : Hid (OwnO wd12 wd5.heap.size gR1 gg1 (mixL a0 a1 u2 u3)) := Lib.hid (Xg_5.out.turnS t (by intro c hc hh; have h1 := Xx0bd.out.bd hh; have h2 := Xgbd.out.bd hc; have := Z1.out; have := Z2.out; have := Z3.out; have := Z4.out; have := Z5.out; have := Z6.out; have := Z7.out; have := Z8.out; have := Z9.out; have := Z10.out; have := Z11.out; omega))
      clear Xc_8 Xx1_6 Xg_5
      clear t
      have hk0 : (0 : Int) ≤ ((1 : Nat) : Int) + (a0.length : Int) := by omega
      go_wp2_with fail
      refine (l_markF32 _ _ _ (1 + a0.length) a1 _ (Xx1_7.out).a HN1.out (by omega) _ (by omega)).mono ?_
      rintro e wd13 ⟨rfl, -, t⟩
      have B13 : Hid (Below w.heap.size w wd13) := Lib.hid (t.2.2.2 w B12.out (by intro b hh; have h1 := Xx1bd.out.bd hh; have := Z1.out; have := Z2.out; have := Z3.out; have := Z4.out; have := Z5.out; have := Z6.out; have := Z7.out; have := Z8.out; have := Z9.out; have := Z10.out; have := Z11.out; have := Z12.out; omega))
      have Z13 : Hid (wd12.heap.size ≤ wd13.heap.size) := Lib.hid t.1
      have Xc_10 : Hid (OwnO wd13 wd2.heap.size cR1 cg1 (mixL a0 a1 u2 u3)) := Lib.hid (Xc_9.out.turnS t (by intro c hc hh; have h1 := Xx1bd.out.bd hh; have h2 := Xcbd.out.bd hc; have := Z1.out; have := Z2.out; have := Z3.out; have := Z4.out; have := Z5.out; have := Z6.out; have := Z7.out; have := Z8.out; have := Z9.out; have := Z10.out; have := Z11.out; have := Z12.out; omega))
      have Xg_7 : Hid (OwnO wd13 wd5.heap.size gR1 gg1 (mixL a0 a1 u2 u3)) := Lib.hid (Xg_6.out.turnS t (by intro c hc hh; have h1 := Xx1bd.out.bd hh; have h2 := Xgbd.out.bd hc; have := Z1.out; have := Z2.out; have := Z3.out; have := Z4.out; have := Z5.out; have := Z6.out; have := Z7.out; have := Z8.out; have := Z9.out; have := Z10.out; have := Z11.out; have := Z12.out; omega))
      clear Xc_9 Xg_6
      clear t
      have hk1 : (0 : Int) ≤ ((1 : Nat) : Int) + (a0.length : Int) + (a1.length : Int) := by omega
      go_wp2_with fail
      refine (l_eqF32 _ _ _ _ (mixL a0 a1 u2 u3) _ Xg_7.out.fl Xc_10.out.fl HF.out).mono ?_
      rintro e wd14 ⟨nq, rfl, hw⟩
      have b : Below wd13.heap.size wd13 wd14 := by rw [hw]; repeat (first | exact Below.refl _ _ | refine below_draws ?_ _)
      clear hw
      have B14 : Hid (Below w.heap.size w wd14) := Lib.hid (below_of B13.out B13.out.size b)
      have Z14 : Hid (wd13.heap.size ≤ wd14.heap.size) := Lib.hid b.size
      have Xc_11 : Hid (OwnO wd14 wd2.heap.size cR1 cg1 (mixL a0 a1 u2 u3)) := Lib.hid (Xc_10.out.below b)
      have Xg_8 : Hid (OwnO wd14 wd5.heap.size gR1 gg1 (mixL a0 a1 u2 u3)) := Lib.hid (Xg_7.out.below b)
      clear Xc_10 Xg_7
      clear b
      go_wp2_with fail
      refine (l_markF32 _ _ _ 1 (mixL a0 a1 u2 u3) _ (Xg_8.out).a HF.out (by omega) _ rfl).mono ?_
      rintro e wd15 ⟨rfl, om, t⟩
      have B15 : Hid (Below w.heap.size w wd15) := Lib.hid (t.2.2.2 w B14.out (by intro b hh; have h1 := Xgbd.out.bd hh; have := Z1.out; have := Z2.out; have := Z3.out; have := Z4.out; have := Z5.out; have := Z6.out; have := Z7.out; have := Z8.out; have := Z9.out; have := Z10.out; have := Z11.out; have := Z12.out; have := Z13.out; have := Z14.out; omega))
      have Z15 : Hid (wd14.heap.size ≤ wd15.heap.size) := Lib.hid t.1
      have Xc_12 : Hid (OwnO wd15 wd2.heap.size cR1 cg1 (mixL a0 a1 u2 u3)) := Lib.hid (Xc_11.out.turnS t (by intro c hc hh; have h1 := Xgbd.out.bd hh; have h2 := Xcbd.out.bd hc; have := Z1.out; have := Z2.out; have := Z3.out; have := Z4.out; have := Z5.out; have := Z6.out; have := Z7.out; have := Z8.out; have := Z9.out; have := Z10.out; have := Z11.out; have := Z12.out; have := Z13.out; have := Z14.out; omega))
      have XM : Hid (OwnO wd15 wd5.heap.size gR1 gg1 (marks 1 (mixL a0 a1 u2 u3).length)) := Lib.hid (OwnO.mk' Xg_8.out (marks_length _ _) om)
      clear Xc_11
      clear t om
      have hm : (0 : Int) ≤ ((1 : Nat) : Int) + ((mixL a0 a1 u2 u3).length : Int) := by omega
      go_wp2_with fail
      refine (l_heldF32 _ _ _ 1 _ _ (XM.out).a HF.out (by omega) _ rfl).mono ?_
      rintro e wd16 ⟨nq, rfl, hw⟩
      have b : Below wd15.heap.size wd15 wd16 := by rw [hw]; repeat (first | exact Below.refl _ _ | refine below_draws ?_ _)
      clear hw
      have B16 : Hid (Below w.heap.size w wd16) := Lib.hid (below_of B15.out B15.out.size b)
      have Z16 : Hid (wd15.heap.size ≤ wd16.heap.size) := Lib.hid b.size
      have Xc_13 : Hid (OwnO wd16 wd2.heap.size cR1 cg1 (mixL a0 a1 u2 u3)) := Lib.hid (Xc_12.out.below b)
      have XM_1 : Hid (OwnO wd16 wd5.heap.size gR1 gg1 (marks 1 (mixL a0 a1 u2 u3).length)) := Lib.hid (XM.out.below b)
      clear Xc_12 XM
      clear b
      go_wp2_with fail
      refine (l_toF32N A0 cap0 a0 _ (HP0.out.below B16.out) HN0.out).mono ?_
      rintro e wd17 ⟨rfl, ho, b⟩
      obtain ⟨z0, hz0⟩ : ∃ x, x = wd16.heap.size := ⟨_, rfl⟩
      rw [← hz0] at ho
      rw [← hz0]
      have B17 : Hid (Below w.heap.size w wd17) := Lib.hid (below_of B16.out B16.out.size b)
      have Z17 : Hid (wd16.heap.size ≤ wd17.heap.size) := Lib.hid b.size
      have Xc_14 : Hid (OwnO wd17 wd2.heap.size cR1 cg1 (mixL a0 a1 u2 u3)) := Lib.hid (Xc_13.out.below b)
      have XM_2 : Hid (OwnO wd17 wd5.heap.size gR1 gg1 (marks 1 (mixL a0 a1 u2 u3).length)) := Lib.hid (XM_1.out.below b)
      clear Xc_13 XM_1
      have Xz0 : Hid (OwnO wd17 wd16.heap.size (some ⟨z0, 0, none⟩) z0 a0) := Lib.hid (Own.o ho (by omega))
      have Xz0bd := Xz0
      clear ho b hz0
      go_wp2_with fail
      refine (l_toF32N A1 cap1 a1 _ (HP1.out.below B17.out) HN1.out).mono ?_
      rintro e wd18 ⟨rfl, ho, b⟩
      obtain ⟨z1, hz1⟩ : ∃ x, x = wd17.heap.size := ⟨_, rfl⟩
      rw [← hz1] at ho
      rw [← hz1]
      have B18 : Hid (Below w.heap.size w wd18) := Lib.hid (below_of B17.out B17.out.size b)
      have Z18 : Hid (wd17.heap.size ≤ wd18.heap.size) := Lib.hid b.size
      have Xc_15 : Hid (OwnO wd18 wd2.heap.size cR1 cg1 (mixL a0 a1 u2 u3)) := Lib.hid (Xc_14.out.below b)
      have XM_3 : Hid (OwnO wd18 wd5.heap.size gR1 gg1 (marks 1 (mixL a0 a1 u2 u3).length)) := Lib.hid (XM_2.out.below b)
      have Xz0_1 : Hid (OwnO wd18 wd16.heap.size (some ⟨z0, 0, none⟩) z0 a0) := Lib.hid (Xz0.out.below b)
      clear Xc_14 XM_2 Xz0
      have Xz1 : Hid (OwnO wd18 wd17.heap.size (some ⟨z1, 0, none⟩) z1 a1) := Lib.hid (Own.o ho (by omega))
      have Xz1bd := Xz1
      clear ho b hz1
      go_wp2_with fail
      refine (i_MixLoads _ _ _ _ a0 a1 u2 u3 _ Xz0_1.out.fl Xz1.out.fl HN0.out HN1.out).mono ?_
      rintro e wd19 ⟨hR1, hc1, hg1, rfl, ho, b⟩
      have B19 : Hid (Below w.heap.size w wd19) := Lib.hid (below_of B18.out B18.out.size b)
      have Z19 : Hid (wd18.heap.size ≤ wd19.heap.size) := Lib.hid b.size
      have Xc_16 : Hid (OwnO wd19 wd2.heap.size cR1 cg1 (mixL a0 a1 u2 u3)) := Lib.hid (Xc_15.out.below b)
      have XM_4 : Hid (OwnO wd19 wd5.heap.size gR1 gg1 (marks 1 (mixL a0 a1 u2 u3).length)) := Lib.hid (XM_3.out.below b)
      have Xz0_2 : Hid (OwnO wd19 wd16.heap.size (some ⟨z0, 0, none⟩) z0 a0) := Lib.hid (Xz0_1.out.below b)
      have Xz1_1 : Hid (OwnO wd19 wd17.heap.size (some ⟨z1, 0, none⟩) z1 a1) := Lib.hid (Xz1.out.below b)
      clear Xc_15 XM_3 Xz0_1 Xz1
      have Xh : Hid (OwnO wd19 wd18.heap.size hR1 hg1 (mixL a0 a1 u2 u3)) := Lib.hid (ho)
      have Xhbd := Xh
      clear ho
      clear b
      go_wp2_with fail
      refine (l_eqF32 _ _ _ _ (mixL a0 a1 u2 u3) _ Xh.out.fl Xc_16.out.fl HF.out).mono ?_
      rintro e wd20 ⟨nq, rfl, hw⟩
      have b : Below wd19.heap.size wd19 wd20 := by rw [hw]; repeat (first | exact Below.refl _ _ | refine below_draws ?_ _)
      clear hw
      have B20 : Hid (Below w.heap.size w wd20) := Lib.hid (below_of B19.out B19.out.size b)
      have Z20 : Hid (wd19.heap.size ≤ wd20.heap.size) := Lib.hid b.size
      have Xc_17 : Hid (OwnO wd20 wd2.heap.size cR1 cg1 (mixL a0 a1 u2 u3)) := Lib.hid (Xc_16.out.below b)
      have XM_5 : Hid (OwnO wd20 wd5.heap.size gR1 gg1 (marks 1 (mixL a0 a1 u2 u3).length)) := Lib.hid (XM_4.out.below b)
      have Xh_1 : Hid (OwnO wd20 wd18.heap.size hR1 hg1 (mixL a0 a1 u2 u3)) := Lib.hid (Xh.out.below b)
      clear Xc_16 XM_4 Xh
      clear b
      go_wp2_with fail
      refine (l_heldF32 _ _ _ 1 _ _ (XM_5.out).a HF.out (by omega) _ rfl).mono ?_
      rintro e wd21 ⟨nq, rfl, hw⟩
      have b : Below wd20.heap.size wd20 wd21 := by rw [hw]; repeat (first | exact Below.refl _ _ | refine below_draws ?_ _)
      clear hw
      have B21 : Hid (Below w.heap.size w wd21) := Lib.hid (below_of B20.out B20.out.size b)
      have Z21 : Hid (wd20.heap.size ≤ wd21.heap.size) := Lib.hid b.size
      have Xc_18 : Hid (OwnO wd21 wd2.heap.size cR1 cg1 (mixL a0 a1 u2 u3)) := Lib.hid (Xc_17.out.below b)
      have XM_6 : Hid (OwnO wd21 wd5.heap.size gR1 gg1 (marks 1 (mixL a0 a1 u2 u3).length)) := Lib.hid (XM_5.out.below b)
      have Xh_2 : Hid (OwnO wd21 wd18.heap.size hR1 hg1 (mixL a0 a1 u2 u3)) := Lib.hid (Xh_1.out.below b)
      clear Xc_17 XM_5 Xh_1
      clear b
      go_wp2
      go_ret
      exact ⟨rfl, B21.out⟩
    · skip
      go_enter Try.func10, Try.ntmps10
      go_wp2
      go_ret
      exact ⟨rfl, Below.refl _ _⟩
  · skip
    go_enter Try.func10, Try.ntmps10
    go_wp2
    go_ret
    exact ⟨rfl, Below.refl _ _⟩
end Go.Proofs.Ytpchkedgjikpfaa

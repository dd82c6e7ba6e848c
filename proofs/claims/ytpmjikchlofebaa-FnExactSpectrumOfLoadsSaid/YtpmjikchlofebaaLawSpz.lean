/- The law FnExactSpectrumOfLoads. No statement is proved here. -/
import Derived.Test.YtpmjikchlofebaaSpzS
import Derived.Test.YtpmjikchlofebaaCxP
import Derived.Test.YtpmjikchlofebaaMarkR
namespace Go.Proofs.Ytpmjikchlofebaa
open Go Go.RowKit
theorem OwnOZ.mk' {w w0 : World} {B0 b : Nat} {A : Option Addr} {xs ys : List (Nat × Nat)} (h : OwnOZ w0 B0 A b xs) (hl : ys.length = xs.length) (hm : xs = [] ∨ OwnZ w b ys) : OwnOZ w B0 A b ys := by
  rcases h with h | ⟨h1, h2, -⟩
  · subst h; exact .inl (List.eq_nil_of_length_eq_zero hl)
  · rcases hm with h | h
    · subst h; exact .inl (List.eq_nil_of_length_eq_zero hl)
    · exact .inr ⟨h1, h2, h⟩
set_option maxHeartbeats 16000000 in
set_option maxRecDepth 100000 in
theorem law_FnExactSpectrumOfLoads (A0 : Option Addr) (cap0 : Nat) (a0 : List Nat) (w : World) (h0 : Fl w A0 a0) (ma0 : a0.length ≤ 9223372036854775807) :
    Calls Try.prog 8 #[.slice A0 a0.length cap0] w fun e w' => e = .returned (.bool true) ∧ Below w.heap.size w w' := by
  have HP0 := Lib.hid h0
  clear h0
  by_cases hn0 : a0.length ≤ 1048576
  · skip
    have HN0 : Hid (a0.length ≤ 1048576) := Lib.hid (by omega)
    have HF : Hid ((spL a0).length ≤ 1048576) := Lib.hid (spL_few a0 HN0.out)
    go_enter Try.func8, Try.ntmps8
    go_wp2_with fail
    refine (l_toF32N A0 cap0 a0 _ (HP0.out) HN0.out).mono ?_
    rintro e wd1 ⟨rfl, ho, b⟩
    obtain ⟨p0, hp0⟩ : ∃ x, x = w.heap.size := ⟨_, rfl⟩
    rw [← hp0] at ho
    rw [← hp0]
    have B1 : Hid (Below w.heap.size w wd1) := Lib.hid b
    have Z1 : Hid (w.heap.size ≤ wd1.heap.size) := Lib.hid b.size
    have Xp0 : Hid (OwnO wd1 w.heap.size (some ⟨p0, 0, none⟩) p0 a0) := Lib.hid (Own.o ho (by omega))
    have Xp0bd := Xp0
    clear ho b hp0
    go_wp2_with fail
    refine (s_SpectrumOfLoads _ _ a0 _ Xp0.out.fl HN0.out).mono ?_
    rintro e wd2 ⟨cR1, cc1, cg1, rfl, ho, b⟩
    have B2 : Hid (Below w.heap.size w wd2) := Lib.hid (below_of B1.out B1.out.size b)
    have Z2 : Hid (wd1.heap.size ≤ wd2.heap.size) := Lib.hid b.size
    have Xp0_1 : Hid (OwnO wd2 w.heap.size (some ⟨p0, 0, none⟩) p0 a0) := Lib.hid (Xp0.out.below b)
    clear Xp0
    have Xc : Hid (OwnOZ wd2 wd1.heap.size cR1 cg1 (spL a0)) := Lib.hid (ho)
    have Xcbd := Xc
    clear ho
    clear b
    go_wp2_with fail
    refine (l_toF32N A0 cap0 a0 _ (HP0.out.below B2.out) HN0.out).mono ?_
    rintro e wd3 ⟨rfl, ho, b⟩
    obtain ⟨x0, hx0⟩ : ∃ x, x = wd2.heap.size := ⟨_, rfl⟩
    rw [← hx0] at ho
    rw [← hx0]
    have B3 : Hid (Below w.heap.size w wd3) := Lib.hid (below_of B2.out B2.out.size b)
    have Z3 : Hid (wd2.heap.size ≤ wd3.heap.size) := Lib.hid b.size
    have Xc_1 : Hid (OwnOZ wd3 wd1.heap.size cR1 cg1 (spL a0)) := Lib.hid (Xc.out.below b)
    clear Xc
    have Xx0 : Hid (OwnO wd3 wd2.heap.size (some ⟨x0, 0, none⟩) x0 a0) := Lib.hid (Own.o ho (by omega))
    have Xx0bd := Xx0
    clear ho b hx0
    go_wp2_with fail
    refine (i_SpectrumOfLoads _ _ a0 _ Xx0.out.fl HN0.out).mono ?_
    rintro e wd4 ⟨gR1, gc1, gg1, rfl, ho, b⟩
    have B4 : Hid (Below w.heap.size w wd4) := Lib.hid (below_of B3.out B3.out.size b)
    have Z4 : Hid (wd3.heap.size ≤ wd4.heap.size) := Lib.hid b.size
    have Xc_2 : Hid (OwnOZ wd4 wd1.heap.size cR1 cg1 (spL a0)) := Lib.hid (Xc_1.out.below b)
    have Xx0_1 : Hid (OwnO wd4 wd2.heap.size (some ⟨x0, 0, none⟩) x0 a0) := Lib.hid (Xx0.out.below b)
    clear Xc_1 Xx0
    have Xg : Hid (OwnOZ wd4 wd3.heap.size gR1 gg1 (spL a0)) := Lib.hid (ho)
    have Xgbd := Xg
    clear ho
    clear b
    go_wp2_with fail
    refine (l_eqC64 _ _ _ _ (spL a0) _ Xg.out.fl Xc_2.out.fl HF.out).mono ?_
    rintro e wd5 ⟨nq, rfl, hw⟩
    have b : Below wd4.heap.size wd4 wd5 := by rw [hw]; repeat (first | exact Below.refl _ _ | refine below_draws ?_ _)
    clear hw
    have B5 : Hid (Below w.heap.size w wd5) := Lib.hid (below_of B4.out B4.out.size b)
    have Z5 : Hid (wd4.heap.size ≤ wd5.heap.size) := Lib.hid b.size
    have Xc_3 : Hid (OwnOZ wd5 wd1.heap.size cR1 cg1 (spL a0)) := Lib.hid (Xc_2.out.below b)
    have Xx0_2 : Hid (OwnO wd5 wd2.heap.size (some ⟨x0, 0, none⟩) x0 a0) := Lib.hid (Xx0_1.out.below b)
    have Xg_1 : Hid (OwnOZ wd5 wd3.heap.size gR1 gg1 (spL a0)) := Lib.hid (Xg.out.below b)
    clear Xc_2 Xx0_1 Xg
    clear b
    go_wp2_with fail
    refine (l_toF32N A0 cap0 a0 _ (HP0.out.below B5.out) HN0.out).mono ?_
    rintro e wd6 ⟨rfl, ho, b⟩
    obtain ⟨y0, hy0⟩ : ∃ x, x = wd5.heap.size := ⟨_, rfl⟩
    rw [← hy0] at ho
    rw [← hy0]
    have B6 : Hid (Below w.heap.size w wd6) := Lib.hid (below_of B5.out B5.out.size b)
    have Z6 : Hid (wd5.heap.size ≤ wd6.heap.size) := Lib.hid b.size
    have Xc_4 : Hid (OwnOZ wd6 wd1.heap.size cR1 cg1 (spL a0)) := Lib.hid (Xc_3.out.below b)
    have Xx0_3 : Hid (OwnO wd6 wd2.heap.size (some ⟨x0, 0, none⟩) x0 a0) := Lib.hid (Xx0_2.out.below b)
    have Xg_2 : Hid (OwnOZ wd6 wd3.heap.size gR1 gg1 (spL a0)) := Lib.hid (Xg_1.out.below b)
    clear Xc_3 Xx0_2 Xg_1
    have Xy0 : Hid (OwnO wd6 wd5.heap.size (some ⟨y0, 0, none⟩) y0 a0) := Lib.hid (Own.o ho (by omega))
    have Xy0bd := Xy0
    clear ho b hy0
    go_wp2_with fail
    refine (l_eqF32 _ _ _ _ a0 _ Xx0_3.out.fl Xy0.out.fl HN0.out).mono ?_
    rintro e wd7 ⟨nq, rfl, hw⟩
    have b : Below wd6.heap.size wd6 wd7 := by rw [hw]; repeat (first | exact Below.refl _ _ | refine below_draws ?_ _)
    clear hw
    have B7 : Hid (Below w.heap.size w wd7) := Lib.hid (below_of B6.out B6.out.size b)
    have Z7 : Hid (wd6.heap.size ≤ wd7.heap.size) := Lib.hid b.size
    have Xc_5 : Hid (OwnOZ wd7 wd1.heap.size cR1 cg1 (spL a0)) := Lib.hid (Xc_4.out.below b)
    have Xx0_4 : Hid (OwnO wd7 wd2.heap.size (some ⟨x0, 0, none⟩) x0 a0) := Lib.hid (Xx0_3.out.below b)
    have Xg_3 : Hid (OwnOZ wd7 wd3.heap.size gR1 gg1 (spL a0)) := Lib.hid (Xg_2.out.below b)
    have Xy0_1 : Hid (OwnO wd7 wd5.heap.size (some ⟨y0, 0, none⟩) y0 a0) := Lib.hid (Xy0.out.below b)
    clear Xc_4 Xx0_3 Xg_2 Xy0
    clear b
    go_wp2_with fail
    refine (l_markF32 _ _ _ (1) a0 _ (Xx0_4.out).a HN0.out (by omega) _ (by omega)).mono ?_
    rintro e wd8 ⟨rfl, -, t⟩
    have B8 : Hid (Below w.heap.size w wd8) := Lib.hid (t.2.2.2 w B7.out (by intro b hh; have h1 := Xx0bd.out.bd hh; have := Z1.out; have := Z2.out; have := Z3.out; have := Z4.out; have := Z5.out; have := Z6.out; have := Z7.out; omega))
    have Z8 : Hid (wd7.heap.size ≤ wd8.heap.size) := Lib.hid t.1
    have Xc_6 : Hid (OwnOZ wd8 wd1.heap.size cR1 cg1 (spL a0)) := Lib.hid (Xc_5.out.turnS t (by intro c hc hh; have h1 := Xx0bd.out.bd hh; have h2 := Xcbd.out.bd hc; have := Z1.out; have := Z2.out; have := Z3.out; have := Z4.out; have := Z5.out; have := Z6.out; have := Z7.out; omega))
    have Xg_4 : Hid (OwnOZ wd8 wd3.heap.size gR1 gg1 (spL a0)) := Lib.hid (Xg_3.out.turnS t (by intro c hc hh; have h1 := Xx0bd.out.bd hh; have h2 := Xgbd.out.bd hc; have := Z1.out; have := Z2.out; have := Z3.out; have := Z4.out; have := Z5.out; have := Z6.out; have := Z7.out; omega))
    clear Xc_5 Xg_3
    clear t
    have hk0 : (0 : Int) ≤ ((1 : Nat) : Int) + (a0.length : Int) := by omega
    go_wp2_with fail
    refine (l_eqC64 _ _ _ _ (spL a0) _ Xg_4.out.fl Xc_6.out.fl HF.out).mono ?_
    rintro e wd9 ⟨nq, rfl, hw⟩
    have b : Below wd8.heap.size wd8 wd9 := by rw [hw]; repeat (first | exact Below.refl _ _ | refine below_draws ?_ _)
    clear hw
    have B9 : Hid (Below w.heap.size w wd9) := Lib.hid (below_of B8.out B8.out.size b)
    have Z9 : Hid (wd8.heap.size ≤ wd9.heap.size) := Lib.hid b.size
    have Xc_7 : Hid (OwnOZ wd9 wd1.heap.size cR1 cg1 (spL a0)) := Lib.hid (Xc_6.out.below b)
    have Xg_5 : Hid (OwnOZ wd9 wd3.heap.size gR1 gg1 (spL a0)) := Lib.hid (Xg_4.out.below b)
    clear Xc_6 Xg_4
    clear b
    go_wp2_with fail
    refine (l_markC64 _ _ _ 1 (spL a0) _ (Xg_5.out).a HF.out (by omega) _ rfl).mono ?_
    rintro e wd10 ⟨rfl, om, t⟩
    have B10 : Hid (Below w.heap.size w wd10) := Lib.hid (t.2.2.2 w B9.out (by intro b hh; have h1 := Xgbd.out.bd hh; have := Z1.out; have := Z2.out; have := Z3.out; have := Z4.out; have := Z5.out; have := Z6.out; have := Z7.out; have := Z8.out; have := Z9.out; omega))
    have Z10 : Hid (wd9.heap.size ≤ wd10.heap.size) := Lib.hid t.1
    have Xc_8 : Hid (OwnOZ wd10 wd1.heap.size cR1 cg1 (spL a0)) := Lib.hid (Xc_7.out.turnS t (by intro c hc hh; have h1 := Xgbd.out.bd hh; have h2 := Xcbd.out.bd hc; have := Z1.out; have := Z2.out; have := Z3.out; have := Z4.out; have := Z5.out; have := Z6.out; have := Z7.out; have := Z8.out; have := Z9.out; omega))
    have XM : Hid (OwnOZ wd10 wd3.heap.size gR1 gg1 (marksZ 1 (spL a0).length)) := Lib.hid (OwnOZ.mk' Xg_5.out (marks_lengthZ _ _) om)
    clear Xc_7
    clear t om
    have hm : (0 : Int) ≤ ((1 : Nat) : Int) + ((spL a0).length : Int) := by omega
    go_wp2_with fail
    refine (l_heldC64 _ _ _ 1 _ _ (XM.out).a HF.out (by omega) _ rfl).mono ?_
    rintro e wd11 ⟨nq, rfl, hw⟩
    have b : Below wd10.heap.size wd10 wd11 := by rw [hw]; repeat (first | exact Below.refl _ _ | refine below_draws ?_ _)
    clear hw
    have B11 : Hid (Below w.heap.size w wd11) := Lib.hid (below_of B10.out B10.out.size b)
    have Z11 : Hid (wd10.heap.size ≤ wd11.heap.size) := Lib.hid b.size
    have Xc_9 : Hid (OwnOZ wd11 wd1.heap.size cR1 cg1 (spL a0)) := Lib.hid (Xc_8.out.below b)
    have XM_1 : Hid (OwnOZ wd11 wd3.heap.size gR1 gg1 (marksZ 1 (spL a0).length)) := Lib.hid (XM.out.below b)
    clear Xc_8 XM
    clear b
    go_wp2_with fail
    refine (l_toF32N A0 cap0 a0 _ (HP0.out.below B11.out) HN0.out).mono ?_
    rintro e wd12 ⟨rfl, ho, b⟩
    obtain ⟨z0, hz0⟩ : ∃ x, x = wd11.heap.size := ⟨_, rfl⟩
    rw [← hz0] at ho
    rw [← hz0]
    have B12 : Hid (Below w.heap.size w wd12) := Lib.hid (below_of B11.out B11.out.size b)
    have Z12 : Hid (wd11.heap.size ≤ wd12.heap.size) := Lib.hid b.size
    have Xc_10 : Hid (OwnOZ wd12 wd1.heap.size cR1 cg1 (spL a0)) := Lib.hid (Xc_9.out.below b)
    have XM_2 : Hid (OwnOZ wd12 wd3.heap.size gR1 gg1 (marksZ 1 (spL a0).length)) := Lib.hid (XM_1.out.below b)
    clear Xc_9 XM_1
    have Xz0 : Hid (OwnO wd12 wd11.heap.size (some ⟨z0, 0, none⟩) z0 a0) := Lib.hid (Own.o ho (by omega))
    have Xz0bd := Xz0
    clear ho b hz0
    go_wp2_with fail
    refine (i_SpectrumOfLoads _ _ a0 _ Xz0.out.fl HN0.out).mono ?_
    rintro e wd13 ⟨hR1, hc1, hg1, rfl, ho, b⟩
    have B13 : Hid (Below w.heap.size w wd13) := Lib.hid (below_of B12.out B12.out.size b)
    have Z13 : Hid (wd12.heap.size ≤ wd13.heap.size) := Lib.hid b.size
    have Xc_11 : Hid (OwnOZ wd13 wd1.heap.size cR1 cg1 (spL a0)) := Lib.hid (Xc_10.out.below b)
    have XM_3 : Hid (OwnOZ wd13 wd3.heap.size gR1 gg1 (marksZ 1 (spL a0).length)) := Lib.hid (XM_2.out.below b)
    have Xz0_1 : Hid (OwnO wd13 wd11.heap.size (some ⟨z0, 0, none⟩) z0 a0) := Lib.hid (Xz0.out.below b)
    clear Xc_10 XM_2 Xz0
    have Xh : Hid (OwnOZ wd13 wd12.heap.size hR1 hg1 (spL a0)) := Lib.hid (ho)
    have Xhbd := Xh
    clear ho
    clear b
    go_wp2_with fail
    refine (l_eqC64 _ _ _ _ (spL a0) _ Xh.out.fl Xc_11.out.fl HF.out).mono ?_
    rintro e wd14 ⟨nq, rfl, hw⟩
    have b : Below wd13.heap.size wd13 wd14 := by rw [hw]; repeat (first | exact Below.refl _ _ | refine below_draws ?_ _)
    clear hw
    have B14 : Hid (Below w.heap.size w wd14) := Lib.hid (below_of B13.out B13.out.size b)
    have Z14 : Hid (wd13.heap.size ≤ wd14.heap.size) := Lib.hid b.size
    have Xc_12 : Hid (OwnOZ wd14 wd1.heap.size cR1 cg1 (spL a0)) := Lib.hid (Xc_11.out.below b)
    have XM_4 : Hid (OwnOZ wd14 wd3.heap.size gR1 gg1 (marksZ 1 (spL a0).length)) := Lib.hid (XM_3.out.below b)
    have Xh_1 : Hid (OwnOZ wd14 wd12.heap.size hR1 hg1 (spL a0)) := Lib.hid (Xh.out.below b)
    clear Xc_11 XM_3 Xh
    clear b
    go_wp2_with fail
    refine (l_heldC64 _ _ _ 1 _ _ (XM_4.out).a HF.out (by omega) _ rfl).mono ?_
    rintro e wd15 ⟨nq, rfl, hw⟩
    have b : Below wd14.heap.size wd14 wd15 := by rw [hw]; repeat (first | exact Below.refl _ _ | refine below_draws ?_ _)
    clear hw
    have B15 : Hid (Below w.heap.size w wd15) := Lib.hid (below_of B14.out B14.out.size b)
    have Z15 : Hid (wd14.heap.size ≤ wd15.heap.size) := Lib.hid b.size
    have Xc_13 : Hid (OwnOZ wd15 wd1.heap.size cR1 cg1 (spL a0)) := Lib.hid (Xc_12.out.below b)
    have XM_5 : Hid (OwnOZ wd15 wd3.heap.size gR1 gg1 (marksZ 1 (spL a0).length)) := Lib.hid (XM_4.out.below b)
    have Xh_2 : Hid (OwnOZ wd15 wd12.heap.size hR1 hg1 (spL a0)) := Lib.hid (Xh_1.out.below b)
    clear Xc_12 XM_4 Xh_1
    clear b
    go_wp2
    go_ret
    exact ⟨rfl, B15.out⟩
  · skip
    go_enter Try.func8, Try.ntmps8
    go_wp2
    go_ret
    exact ⟨rfl, by first | exact Below.refl _ _ | exact (Below.refl _ _).alloc (Nat.le_refl _) _⟩
end Go.Proofs.Ytpmjikchlofebaa

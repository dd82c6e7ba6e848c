/- The law FnExactSameCycles. No statement is proved here. -/
import Derived.Test.YtpchkedgjikpfabSmC
import Derived.Test.YtpchkedgjikpfabCycM
namespace Go.Proofs.Ytpchkedgjikpfab
open Go Go.RowKit
set_option maxHeartbeats 16000000 in
set_option maxRecDepth 100000 in
theorem law_FnExactSameCycles (A0 : Option Addr) (cap0 : Nat) (a0 : List (Nat × Nat × Bool)) (A1 : Option Addr) (cap1 : Nat) (a1 : List (Nat × Nat × Bool)) (w : World) (h0 : FlC w A0 a0) (ma0 : a0.length ≤ 9223372036854775807) (hv0 : ∀ k, k < a0.length → loN a0 k < words .f32 ∧ hiN a0 k < words .f32) (h1 : FlC w A1 a1) (ma1 : a1.length ≤ 9223372036854775807) (hv1 : ∀ k, k < a1.length → loN a1 k < words .f32 ∧ hiN a1 k < words .f32) :
    Calls Try.prog 4 #[.slice A0 a0.length cap0, .slice A1 a1.length cap1] w fun e w' => e = .returned (.bool true) ∧ Below w.heap.size w w' := by
  have HP0 := Lib.hid h0
  clear h0
  have HP1 := Lib.hid h1
  clear h1
  by_cases hn0 : a0.length ≤ 1048576
  · skip
    by_cases hn1 : a0.length + (a1.length) ≤ 1048576
    · skip
      have HN0 : Hid (a0.length ≤ 1048576) := Lib.hid (by omega)
      have HN1 : Hid (a1.length ≤ 1048576) := Lib.hid (by omega)
      have HV0 : Hid (∀ k, k < a0.length → canon .f32 (loN a0 k) < 4294967296 ∧ canon .f32 (hiN a0 k) < 4294967296) := Lib.hid (fun k hk => ⟨canon_lt (hv0 k hk).1, canon_lt (hv0 k hk).2⟩)
      have HV1 : Hid (∀ k, k < a1.length → canon .f32 (loN a1 k) < 4294967296 ∧ canon .f32 (hiN a1 k) < 4294967296) := Lib.hid (fun k hk => ⟨canon_lt (hv1 k hk).1, canon_lt (hv1 k hk).2⟩)
      go_enter Try.func4, Try.ntmps4
      have hq0 : (0 : Int) ≤ 1048576 - (a0.length : Int) := by omega
      have hq1 : (0 : Int) ≤ 1048576 - (a0.length : Int) - (a1.length : Int) := by omega
      go_wp2_with fail
      refine (l_szCycleS_yes A0 _ cap0 _ _ (by omega) (by omega)).mono ?_
      rintro e w ⟨rfl, rfl⟩
      go_wp2_with fail
      refine (l_szCycleS_yes A1 _ cap1 _ _ (by omega) (by omega)).mono ?_
      rintro e w ⟨rfl, rfl⟩
      go_wp2_with fail
      refine (l_toCycleS A0 cap0 a0 _ (HP0.out) HN0.out).mono ?_
      rintro e wd1 ⟨rfl, ho, b⟩
      obtain ⟨p0, hp0⟩ : ∃ x, x = w.heap.size := ⟨_, rfl⟩
      rw [← hp0] at ho
      rw [← hp0]
      have B1 : Hid (Below w.heap.size w wd1) := Lib.hid b
      have Z1 : Hid (w.heap.size ≤ wd1.heap.size) := Lib.hid b.size
      have Xp0 : Hid (OwnOC wd1 w.heap.size (some ⟨p0, 0, none⟩) p0 a0) := Lib.hid (OwnC.o ho (by omega))
      have Xp0bd := Xp0
      clear ho b hp0
      go_wp2_with fail
      refine (l_toCycleS A1 cap1 a1 _ (HP1.out.below B1.out) HN1.out).mono ?_
      rintro e wd2 ⟨rfl, ho, b⟩
      obtain ⟨p1, hp1⟩ : ∃ x, x = wd1.heap.size := ⟨_, rfl⟩
      rw [← hp1] at ho
      rw [← hp1]
      have B2 : Hid (Below w.heap.size w wd2) := Lib.hid (below_of B1.out B1.out.size b)
      have Z2 : Hid (wd1.heap.size ≤ wd2.heap.size) := Lib.hid b.size
      have Xp0_1 : Hid (OwnOC wd2 w.heap.size (some ⟨p0, 0, none⟩) p0 a0) := Lib.hid (Xp0.out.below b)
      clear Xp0
      have Xp1 : Hid (OwnOC wd2 wd1.heap.size (some ⟨p1, 0, none⟩) p1 a1) := Lib.hid (OwnC.o ho (by omega))
      have Xp1bd := Xp1
      clear ho b hp1
      go_wp2_with fail
      refine (s_SameCycles _ _ _ _ a0 a1 _ Xp0_1.out.fl Xp1.out.fl HN0.out HN1.out HV0.out HV1.out).mono ?_
      rintro e wd3 ⟨rfl, b⟩
      have B3 : Hid (Below w.heap.size w wd3) := Lib.hid (below_of B2.out B2.out.size b)
      have Z3 : Hid (wd2.heap.size ≤ wd3.heap.size) := Lib.hid b.size
      have Xp0_2 : Hid (OwnOC wd3 w.heap.size (some ⟨p0, 0, none⟩) p0 a0) := Lib.hid (Xp0_1.out.below b)
      have Xp1_1 : Hid (OwnOC wd3 wd1.heap.size (some ⟨p1, 0, none⟩) p1 a1) := Lib.hid (Xp1.out.below b)
      clear Xp0_1 Xp1
      clear b
      go_wp2_with fail
      refine (l_toCycleS A0 cap0 a0 _ (HP0.out.below B3.out) HN0.out).mono ?_
      rintro e wd4 ⟨rfl, ho, b⟩
      obtain ⟨x0, hx0⟩ : ∃ x, x = wd3.heap.size := ⟨_, rfl⟩
      rw [← hx0] at ho
      rw [← hx0]
      have B4 : Hid (Below w.heap.size w wd4) := Lib.hid (below_of B3.out B3.out.size b)
      have Z4 : Hid (wd3.heap.size ≤ wd4.heap.size) := Lib.hid b.size
      have Xx0 : Hid (OwnOC wd4 wd3.heap.size (some ⟨x0, 0, none⟩) x0 a0) := Lib.hid (OwnC.o ho (by omega))
      have Xx0bd := Xx0
      clear ho b hx0
      go_wp2_with fail
      refine (l_toCycleS A1 cap1 a1 _ (HP1.out.below B4.out) HN1.out).mono ?_
      rintro e wd5 ⟨rfl, ho, b⟩
      obtain ⟨x1, hx1⟩ : ∃ x, x = wd4.heap.size := ⟨_, rfl⟩
      rw [← hx1] at ho
      rw [← hx1]
      have B5 : Hid (Below w.heap.size w wd5) := Lib.hid (below_of B4.out B4.out.size b)
      have Z5 : Hid (wd4.heap.size ≤ wd5.heap.size) := Lib.hid b.size
      have Xx0_1 : Hid (OwnOC wd5 wd3.heap.size (some ⟨x0, 0, none⟩) x0 a0) := Lib.hid (Xx0.out.below b)
      clear Xx0
      have Xx1 : Hid (OwnOC wd5 wd4.heap.size (some ⟨x1, 0, none⟩) x1 a1) := Lib.hid (OwnC.o ho (by omega))
      have Xx1bd := Xx1
      clear ho b hx1
      go_wp2_with fail
      refine (i_SameCycles _ _ _ _ a0 a1 _ Xx0_1.out.fl Xx1.out.fl HN0.out HN1.out HV0.out HV1.out).mono ?_
      rintro e wd6 ⟨rfl, b⟩
      have B6 : Hid (Below w.heap.size w wd6) := Lib.hid (below_of B5.out B5.out.size b)
      have Z6 : Hid (wd5.heap.size ≤ wd6.heap.size) := Lib.hid b.size
      have Xx0_2 : Hid (OwnOC wd6 wd3.heap.size (some ⟨x0, 0, none⟩) x0 a0) := Lib.hid (Xx0_1.out.below b)
      have Xx1_1 : Hid (OwnOC wd6 wd4.heap.size (some ⟨x1, 0, none⟩) x1 a1) := Lib.hid (Xx1.out.below b)
      clear Xx0_1 Xx1
      clear b
      go_wp2_with fail
      refine (l_toCycleS A0 cap0 a0 _ (HP0.out.below B6.out) HN0.out).mono ?_
      rintro e wd7 ⟨rfl, ho, b⟩
      obtain ⟨y0, hy0⟩ : ∃ x, x = wd6.heap.size := ⟨_, rfl⟩
      rw [← hy0] at ho
      rw [← hy0]
      have B7 : Hid (Below w.heap.size w wd7) := Lib.hid (below_of B6.out B6.out.size b)
      have Z7 : Hid (wd6.heap.size ≤ wd7.heap.size) := Lib.hid b.size
      have Xx0_3 : Hid (OwnOC wd7 wd3.heap.size (some ⟨x0, 0, none⟩) x0 a0) := Lib.hid (Xx0_2.out.below b)
      have Xx1_2 : Hid (OwnOC wd7 wd4.heap.size (some ⟨x1, 0, none⟩) x1 a1) := Lib.hid (Xx1_1.out.below b)
      clear Xx0_2 Xx1_1
      have Xy0 : Hid (OwnOC wd7 wd6.heap.size (some ⟨y0, 0, none⟩) y0 a0) := Lib.hid (OwnC.o ho (by omega))
      have Xy0bd := Xy0
      clear ho b hy0
      go_wp2_with fail
      refine (l_eqCycleS _ _ _ _ a0 _ Xx0_3.out.fl Xy0.out.fl HN0.out).mono ?_
      rintro e wd8 ⟨rfl, b⟩
      have B8 : Hid (Below w.heap.size w wd8) := Lib.hid (below_of B7.out B7.out.size b)
      have Z8 : Hid (wd7.heap.size ≤ wd8.heap.size) := Lib.hid b.size
      have Xx0_4 : Hid (OwnOC wd8 wd3.heap.size (some ⟨x0, 0, none⟩) x0 a0) := Lib.hid (Xx0_3.out.below b)
      have Xx1_3 : Hid (OwnOC wd8 wd4.heap.size (some ⟨x1, 0, none⟩) x1 a1) := Lib.hid (Xx1_2.out.below b)
      have Xy0_1 : Hid (OwnOC wd8 wd6.heap.size (some ⟨y0, 0, none⟩) y0 a0) := Lib.hid (Xy0.out.below b)
      clear Xx0_3 Xx1_2 Xy0
      clear b
      go_wp2_with fail
      refine (l_toCycleS A1 cap1 a1 _ (HP1.out.below B8.out) HN1.out).mono ?_
      rintro e wd9 ⟨rfl, ho, b⟩
      obtain ⟨y1, hy1⟩ : ∃ x, x = wd8.heap.size := ⟨_, rfl⟩
      rw [← hy1] at ho
      rw [← hy1]
      have B9 : Hid (Below w.heap.size w wd9) := Lib.hid (below_of B8.out B8.out.size b)
      have Z9 : Hid (wd8.heap.size ≤ wd9.heap.size) := Lib.hid b.size
      have Xx0_5 : Hid (OwnOC wd9 wd3.heap.size (some ⟨x0, 0, none⟩) x0 a0) := Lib.hid (Xx0_4.out.below b)
      have Xx1_4 : Hid (OwnOC wd9 wd4.heap.size (some ⟨x1, 0, none⟩) x1 a1) := Lib.hid (Xx1_3.out.below b)
      clear Xx0_4 Xx1_3
      have Xy1 : Hid (OwnOC wd9 wd8.heap.size (some ⟨y1, 0, none⟩) y1 a1) := Lib.hid (OwnC.o ho (by omega))
      have Xy1bd := Xy1
      clear ho b hy1
      go_wp2_with fail
      refine (l_eqCycleS _ _ _ _ a1 _ Xx1_4.out.fl Xy1.out.fl HN1.out).mono ?_
      rintro e wd10 ⟨rfl, b⟩
      have B10 : Hid (Below w.heap.size w wd10) := Lib.hid (below_of B9.out B9.out.size b)
      have Z10 : Hid (wd9.heap.size ≤ wd10.heap.size) := Lib.hid b.size
      have Xx0_6 : Hid (OwnOC wd10 wd3.heap.size (some ⟨x0, 0, none⟩) x0 a0) := Lib.hid (Xx0_5.out.below b)
      have Xx1_5 : Hid (OwnOC wd10 wd4.heap.size (some ⟨x1, 0, none⟩) x1 a1) := Lib.hid (Xx1_4.out.below b)
      have Xy1_1 : Hid (OwnOC wd10 wd8.heap.size (some ⟨y1, 0, none⟩) y1 a1) := Lib.hid (Xy1.out.below b)
      clear Xx0_5 Xx1_4 Xy1
      clear b
      go_wp2
      go_ret
      exact ⟨rfl, B10.out⟩
    · skip
      have HN0 : Hid (a0.length ≤ 1048576) := Lib.hid (by omega)
      have HV0 : Hid (∀ k, k < a0.length → canon .f32 (loN a0 k) < 4294967296 ∧ canon .f32 (hiN a0 k) < 4294967296) := Lib.hid (fun k hk => ⟨canon_lt (hv0 k hk).1, canon_lt (hv0 k hk).2⟩)
      have HV1 : Hid (∀ k, k < a1.length → canon .f32 (loN a1 k) < 4294967296 ∧ canon .f32 (hiN a1 k) < 4294967296) := Lib.hid (fun k hk => ⟨canon_lt (hv1 k hk).1, canon_lt (hv1 k hk).2⟩)
      go_enter Try.func4, Try.ntmps4
      have hq0 : (0 : Int) ≤ 1048576 - (a0.length : Int) := by omega
      go_wp2_with fail
      refine (l_szCycleS_yes A0 _ cap0 _ _ (by omega) (by omega)).mono ?_
      rintro e w ⟨rfl, rfl⟩
      go_wp2_with fail
      refine (l_szCycleS_no A1 _ cap1 _ _ (by omega) (by omega) (by omega) ma1).mono ?_
      rintro e w ⟨rfl, rfl⟩
      go_wp2
      go_ret
      exact ⟨rfl, Below.refl _ _⟩
  · skip
    have HV0 : Hid (∀ k, k < a0.length → canon .f32 (loN a0 k) < 4294967296 ∧ canon .f32 (hiN a0 k) < 4294967296) := Lib.hid (fun k hk => ⟨canon_lt (hv0 k hk).1, canon_lt (hv0 k hk).2⟩)
    have HV1 : Hid (∀ k, k < a1.length → canon .f32 (loN a1 k) < 4294967296 ∧ canon .f32 (hiN a1 k) < 4294967296) := Lib.hid (fun k hk => ⟨canon_lt (hv1 k hk).1, canon_lt (hv1 k hk).2⟩)
    go_enter Try.func4, Try.ntmps4
    go_wp2_with fail
    refine (l_szCycleS_no A0 _ cap0 _ _ (by omega) (by omega) (by omega) ma0).mono ?_
    rintro e w ⟨rfl, rfl⟩
    go_wp2
    go_ret
    exact ⟨rfl, Below.refl _ _⟩
end Go.Proofs.Ytpchkedgjikpfab

/- Contracts of the functions of angles. No statement is proved here. -/
import Derived.Test.YtbgcelodgefanagBits
import Derived.Test.YtbgcelodgefanagAng
import Derived.Test.YtbgcelodgefanagRoot
import Derived.Test.YtbgcelodgefanagSinW
import Derived.LoopTactic
import Derived.Deep.DeepCutAuto
namespace Go.Proofs.Ytbgcelodgefanag
open Go Go.RowKit
set_option maxHeartbeats 1600000 in
theorem i_flatAngle (t : Nat) (w : World) (ht : BdP .f64 0 t) :
    Calls Try.prog 25 #[.float .f64 t] w fun e w' => e = .returned (.float .f64 (flatA t)) ∧ w' = w := by
  have HT := Lib.hid ht; clear ht
  go_enter Try.func25, Try.ntmps25
  go_wp2
  go_loop [0, 6] (fun s i => ∃ n : Nat, n ≤ 3 ∧ i = .int .i64 n ∧ s = .float .f64 (hvs t n)) (fun _ i => 3 - (intOf i).toNat)
  case atStart => exact ⟨0, Nat.zero_le _, rfl, rfl⟩
  case round =>
    obtain ⟨n, hn, rfl, rfl⟩ := hrel
    by_cases hlt : n < 3
    · obtain ⟨m1, m2, i1, i2, s1, s2, d1, d2, q1, q2⟩ := hvFacts (hvs_bd HT.out n)
      have hs : Hid (hvs t (n + 1) = hv (hvs t n)) := rfl
      generalize hvs t n = s at *
      go_wp2_with fail
      refine (m_Sqrt _ _).mono ?_
      rintro e w' ⟨rfl, rfl⟩
      rw [s1, s2]
      go_wp2
      go_round
      case rel => exact ⟨n + 1, by omega, by go_num, by rw [hs.out]⟩
      case measure => simp [intOf]; omega
    · have hn3 : n = 3 := by omega
      subst hn3
      have hb := hvs_bd HT.out 3
      obtain ⟨m1, m2, t1, t2, u1, u2, v1, v2⟩ := tailFacts hb
      have hu := sq_bd hb
      have hF : Hid (flatA t = tail3 (hvs t 3)) := rfl
      generalize hvs t 3 = s at *
      clear hb
      go_wp2
      go_loop [4, 5] (fun p k => ∃ j : Nat, j ≤ 8 ∧ k = .int .i64 (15 - 2 * (j : Int)) ∧ p = .float .f64 (arcs (fop .mul .f64 s s) j)) (fun _ k => (intOf k + 1).toNat)
      case atStart => exact ⟨0, by omega, rfl, rfl⟩
      case round =>
        obtain ⟨j, hj, rfl, rfl⟩ := hrel
        by_cases h8 : j = 8
        · subst h8
          go_wp2
          go_ret
          exact ⟨by rw [hF.out]; rfl, rfl⟩
        · obtain ⟨⟨a1, a2⟩, ⟨b1, b2⟩, ⟨c1, c2⟩⟩ := arcs_sure hu j (by omega)
          have : j = 0 ∨ j = 1 ∨ j = 2 ∨ j = 3 ∨ j = 4 ∨ j = 5 ∨ j = 6 ∨ j = 7 := by omega
          rcases this with rfl | rfl | rfl | rfl | rfl | rfl | rfl | rfl
          all_goals
            simp only [oddN_0, oddN_1, oddN_2, oddN_3, oddN_4, oddN_5, oddN_6, oddN_7] at a1 a2 c1 c2
            clear h8 hj
            go_wp2
            go_round
            case rel => exact ⟨_, Nat.succ_le_of_lt (by decide), rfl, rfl⟩
            case measure => simp [intOf]
theorem angT_nan {y x : Nat} (h : (fin .f32 y && fin .f32 x) = false) : angT (canon .f32 y) (canon .f32 x) = qnan .f32 := by
  unfold angT; rw [fin_canon, fin_canon, if_neg (by rw [h]; decide)]
theorem angT_zero {y x : Nat} (hy : fin .f32 y = true) (hx : fin .f32 x = true) (h : (isZ y && isZ x) = true) : angT (canon .f32 y) (canon .f32 x) = 0 := by
  rw [canon_of_not (not_nan_of_fin hy), canon_of_not (not_nan_of_fin hx)]
  unfold angT; rw [if_pos (by rw [hy, hx]; rfl), if_pos h]
theorem angT_main {y x : Nat} (hy : fin .f32 y = true) (hx : fin .f32 x = true) (h : (isZ y && isZ x) = false) : angT (canon .f32 y) (canon .f32 x) = narrow (ang3 y x) := by
  rw [canon_of_not (not_nan_of_fin hy), canon_of_not (not_nan_of_fin hx)]
  unfold angT; rw [if_pos (by rw [hy, hx]; rfl), if_neg (by rw [h]; decide)]
theorem tanA_yes {y x : Nat} (h : steep y x = true) : fop .quo .f64 (fabs (wide x)) (fabs (wide y)) = tanA y x := by unfold tanA; rw [if_pos h]
theorem tanA_no {y x : Nat} (h : steep y x = false) : fop .quo .f64 (fabs (wide y)) (fabs (wide x)) = tanA y x := by unfold tanA; rw [if_neg (by rw [h]; decide)]
theorem ang1_yes {y x : Nat} (h : steep y x = true) : fop .sub .f64 4598175219545276416 (flatA (tanA y x)) = ang1 y x := by unfold ang1; rw [if_pos h]
theorem ang1_no {y x : Nat} (h : steep y x = false) : flatA (tanA y x) = ang1 y x := by unfold ang1; rw [if_neg (by rw [h]; decide)]
theorem ang2_yes {y x : Nat} (h : isL x = true) : fop .sub .f64 4602678819172646912 (ang1 y x) = ang2 y x := by unfold ang2; rw [if_pos h]
theorem ang2_no {y x : Nat} (h : isL x = false) : ang1 y x = ang2 y x := by unfold ang2; rw [if_neg (by rw [h]; decide)]
theorem ang3_yes {y x : Nat} (h : isL y = true) : Op.negFloat .f64 (ang2 y x) = ang3 y x := by unfold ang3; rw [if_pos h]
theorem ang3_no {y x : Nat} (h : isL y = false) : ang2 y x = ang3 y x := by unfold ang3; rw [if_neg (by rw [h]; decide)]
theorem quo_yes {y x : Nat} (hb : BdP .f64 0 (tanA y x)) (h : steep y x = true) : (∀ w, fopV .quo .f64 (fabs (wide x)) (fabs (wide y)) w = tanA y x) ∧ fopN .quo .f64 (fabs (wide x)) (fabs (wide y)) = 0 := by
  rw [← tanA_yes h] at hb ⊢; exact bd_sure (bdp_bd hb)
theorem quo_no {y x : Nat} (hb : BdP .f64 0 (tanA y x)) (h : steep y x = false) : (∀ w, fopV .quo .f64 (fabs (wide y)) (fabs (wide x)) w = tanA y x) ∧ fopN .quo .f64 (fabs (wide y)) (fabs (wide x)) = 0 := by
  rw [← tanA_no h] at hb ⊢; exact bd_sure (bdp_bd hb)
theorem sub1_yes {y x : Nat} (hb : BdP .f64 0 (tanA y x)) (h : steep y x = true) : (∀ w, fopV .sub .f64 4598175219545276416 (flatA (tanA y x)) w = ang1 y x) ∧ fopN .sub .f64 4598175219545276416 (flatA (tanA y x)) = 0 := by
  have := ang1_bd hb
  rw [← ang1_yes h] at this ⊢; exact bd_sure this
theorem sub2_yes {y x : Nat} (hb : BdP .f64 0 (tanA y x)) (h : isL x = true) : (∀ w, fopV .sub .f64 4602678819172646912 (ang1 y x) w = ang2 y x) ∧ fopN .sub .f64 4602678819172646912 (ang1 y x) = 0 := by
  have := ang2_bd hb
  rw [← ang2_yes h] at this ⊢; exact bd_sure this
theorem i_AngleTurns_nan (y x : Nat) (w : World) (h : (fin .f32 y && fin .f32 x) = false) :
    Calls Try.prog 11 #[.float .f32 y, .float .f32 x] w fun e w' => ∃ r n, e = .returned (.float .f32 r) ∧ canon .f32 r = canon .f32 (angT (canon .f32 y) (canon .f32 x)) ∧ w' = w.drewN n := by
  rw [angT_nan h, canon_of_nan (isn_qnan .f32)]
  have HI : ∀ w, Hid (isn .f32 (narrowV 9221120237041090561 w) = true) := fun w => isn_narrowV w (by decide +kernel)
  cases hy : fin .f32 y
  · have HY := Lib.hid hy; clear h hy
    go_enter Try.func11, Try.ntmps11
    go_wp2_with fail
    refine (i_IsFinite y _).mono ?_
    rw [HY.out]
    rintro e w' ⟨n, rfl, rfl⟩
    go_wp2_with fail
    refine (m_NaN _).mono ?_
    rintro e w' ⟨rfl, rfl⟩
    go_wp2
    go_ret
    exact ⟨_, _, rfl, canon_of_nan (HI _).out, rfl⟩
  · rw [hy, Bool.true_and] at h
    have HY := Lib.hid hy; have HX := Lib.hid h; clear h hy
    go_enter Try.func11, Try.ntmps11
    go_wp2_with fail
    refine (i_IsFinite y _).mono ?_
    rw [HY.out]
    rintro e w' ⟨n, rfl, rfl⟩
    go_wp2_with fail
    refine (i_IsFinite x _).mono ?_
    rw [HX.out]
    rintro e w' ⟨m, rfl, rfl⟩
    go_wp2_with fail
    refine (m_NaN _).mono ?_
    rintro e w' ⟨rfl, rfl⟩
    go_wp2
    go_ret
    exact ⟨_, _, rfl, canon_of_nan (HI _).out, rfl⟩
set_option maxHeartbeats 3000000 in
theorem i_AngleTurns (y x : Nat) (w : World) :
    Calls Try.prog 11 #[.float .f32 y, .float .f32 x] w fun e w' => ∃ r n, e = .returned (.float .f32 r) ∧ canon .f32 r = canon .f32 (angT (canon .f32 y) (canon .f32 x)) ∧ w' = w.drewN n := by
  cases hf : fin .f32 y && fin .f32 x
  · exact i_AngleTurns_nan y x w hf
  · obtain ⟨hy, hx⟩ := Bool.and_eq_true_iff.1 hf
    clear hf
    cases hz : isZ y && isZ x
    · rw [angT_main hy hx hz]
      have hb := tan_bd hy hx hz
      obtain ⟨n1, n2⟩ := narrow_bd_sure (ang3_bd hb) (by decide) (by decide)
      obtain ⟨wy1, wy2⟩ := wide_sure (not_nan_of_fin hy)
      obtain ⟨wx1, wx2⟩ := wide_sure (not_nan_of_fin hx)
      have hly := wide_lt y
      have hlx := wide_lt x
      have HY := Lib.hid hy; have HX := Lib.hid hx; clear hy hx
      have HB := Lib.hid hb
      cases hs : steep y x <;> cases h1 : isL x <;> cases h2 : isL y <;> cases h3 : isZ y
      all_goals
        simp only [h3, Bool.true_and, Bool.false_and] at hz
        first | have Q := quo_no hb hs | have Q := quo_yes hb hs
        first | have S1 := sub1_yes hb hs | have S1 := ang1_no hs
        first | have S2 := sub2_yes hb h1 | have S2 := ang2_no (y := y) h1
        first | have S3 := ang3_yes (x := x) h2 | have S3 := ang3_no (x := x) h2
        clear hb
        unfold steep at hs
        unfold isL at h1 h2
        unfold isZ at h3
        try unfold isZ at hz
        go_enter Try.func11, Try.ntmps11
        go_wp2_with fail
        refine (i_IsFinite y _).mono ?_
        rw [HY.out]
        rintro e w' ⟨n, rfl, rfl⟩
        go_wp2_with fail
        refine (i_IsFinite x _).mono ?_
        rw [HX.out]
        rintro e w' ⟨m, rfl, rfl⟩
        go_wp2_with fail
        refine (m_Abs _ _ hly).mono ?_
        rintro e w' ⟨rfl, rfl⟩
        go_wp2_with fail
        refine (m_Abs _ _ hlx).mono ?_
        rintro e w' ⟨rfl, rfl⟩
        go_wp2_with fail
        refine (i_flatAngle _ _ HB.out).mono ?_
        rintro e w' ⟨rfl, rfl⟩
        go_wp2_with fail
        refine (i_NarrowNumber _ _).mono ?_
        rintro e w' ⟨rfl, rfl⟩
        go_wp2
        go_ret
        exact ⟨_, _, rfl, rfl, rfl⟩
    · rw [angT_zero hy hx hz]
      obtain ⟨h1, h2⟩ := Bool.and_eq_true_iff.1 hz
      unfold isZ at h1 h2
      have HY := Lib.hid hy; have HX := Lib.hid hx; clear hy hx hz
      go_enter Try.func11, Try.ntmps11
      go_wp2_with fail
      refine (i_IsFinite y _).mono ?_
      rw [HY.out]
      rintro e w' ⟨n, rfl, rfl⟩
      go_wp2_with fail
      refine (i_IsFinite x _).mono ?_
      rw [HX.out]
      rintro e w' ⟨m, rfl, rfl⟩
      go_wp2
      go_ret
      exact ⟨_, _, rfl, rfl, rfl⟩
theorem s_l01AngleWide_nan (y x : Nat) (w : World) (h : (fin .f64 y && fin .f64 x) = false) :
    Calls Try.prog 38 #[.float .f64 y, .float .f64 x] w fun e w' => ∃ n, e = .returned (.float .f64 9221120237041090561) ∧ w' = w.drewN n := by
  cases hy : fin .f64 y
  · have h1 := sub_self_nan hy
    clear h hy
    go_enter Try.func38, Try.ntmps38
    go_wp2_with fail
    refine (m_NaN _).mono ?_
    rintro e w' ⟨rfl, rfl⟩
    go_wp2
    go_ret
    exact ⟨_, rfl, rfl⟩
  · rw [hy, Bool.true_and] at h
    have h1 := sub_self_nan h
    obtain ⟨g1, g2⟩ := sub_self_sure hy
    have h0 : FloatKind.f64.format.order 0 0 = some .eq := by decide +kernel
    clear h hy
    go_enter Try.func38, Try.ntmps38
    go_wp2_with fail
    refine (m_NaN _).mono ?_
    rintro e w' ⟨rfl, rfl⟩
    go_wp2
    go_ret
    exact ⟨_, rfl, rfl⟩
set_option maxRecDepth 100000 in
set_option maxHeartbeats 3000000 in
theorem s_l01AngleWide (y x : Nat) (w : World) (hy : fin .f32 y = true) (hx : fin .f32 x = true) (hz : (isZ y && isZ x) = false) :
    Calls Try.prog 38 #[.float .f64 (wide y), .float .f64 (wide x)] w fun e w' => e = .returned (.float .f64 (ang3 y x)) ∧ w' = w := by
  have hb := tan_bd hy hx hz
  have oy := order_wide_zero hy
  have ox := order_wide_zero hx
  obtain ⟨fy1, fy2⟩ := sub_self_sure (k := .f64) (y := wide y) (by rw [fin_wide, hy])
  obtain ⟨fx1, fx2⟩ := sub_self_sure (k := .f64) (y := wide x) (by rw [fin_wide, hx])
  have h0 : FloatKind.f64.format.order 0 0 = some .eq := by decide +kernel
  have hly := wide_lt y
  have hlx := wide_lt x
  have HB := Lib.hid hb
  have OY := Lib.hid oy
  have OX := Lib.hid ox
  clear hy hx hb oy ox
  cases hs : steep y x <;> cases h3 : isZ x
  all_goals
    simp only [h3, Bool.and_true, Bool.and_false] at hz
    first | have Q := quo_no HB.out hs | have Q := quo_yes HB.out hs
    have HS := Lib.hid hs
    unfold steep at hs
    unfold isZ at h3
    try unfold isZ at hz
    rw [← OX.out] at h3
    try rw [← OY.out] at hz
    go_enter Try.func38, Try.ntmps38
    go_wp2_with fail
    refine (m_Abs _ _ hly).mono ?_
    rintro e w' ⟨rfl, rfl⟩
    go_wp2_with fail
    refine (m_Abs _ _ hlx).mono ?_
    rintro e w' ⟨rfl, rfl⟩
    · go_wp2
      go_loop [8, 9] (fun s i => ∃ n : Nat, n ≤ 3 ∧ i = .int .i64 n ∧ s = .float .f64 (hvs (tanA y x) n)) (fun _ i => 3 - (intOf i).toNat)
      case atStart => exact ⟨0, Nat.zero_le _, rfl, rfl⟩
      case round =>
        obtain ⟨n, hn, rfl, rfl⟩ := hrel
        by_cases hlt : n < 3
        · obtain ⟨m1, m2, i1, i2, s1, s2, d1, d2, q1, q2⟩ := hvFacts (hvs_bd HB.out n)
          have hst : Hid (hvs (tanA y x) (n + 1) = hv (hvs (tanA y x) n)) := rfl
          generalize hvs (tanA y x) n = s at *
          go_wp2_with fail
          refine (m_Sqrt _ _).mono ?_
          rintro e w' ⟨rfl, rfl⟩
          rw [s1, s2]
          go_wp2
          go_round
          case rel => exact ⟨n + 1, by omega, by go_num, by rw [hst.out]⟩
          case measure => simp [intOf]; omega
        · have hn3 : n = 3 := by omega
          subst hn3
          have hb := hvs_bd HB.out 3
          obtain ⟨m1, m2, t1, t2, u1, u2, v1, v2⟩ := tailFacts hb
          have hu := sq_bd hb
          have HF : Hid (flatA (tanA y x) = tail3 (hvs (tanA y x) 3)) := rfl
          generalize hvs (tanA y x) 3 = s at *
          clear hb
          go_wp2
          go_loop [11, 12] (fun p k => ∃ j : Nat, j ≤ 8 ∧ k = .int .i64 (15 - 2 * (j : Int)) ∧ p = .float .f64 (arcs (fop .mul .f64 s s) j)) (fun _ k => (intOf k + 1).toNat)
          case atStart => exact ⟨0, by omega, rfl, rfl⟩
          case round =>
            obtain ⟨j, hj, rfl, rfl⟩ := hrel
            by_cases h8 : j = 8
            · subst h8
              first | have S1 := sub1_yes HB.out HS.out | have S1 := ang1_no HS.out
              rw [HF.out] at S1
              cases h1 : isL x <;> cases h2 : isL y
              all_goals
                first | have S2 := sub2_yes HB.out h1 | have S2 := ang2_no (y := y) h1
                first | have S3 := ang3_yes (x := x) h2 | have S3 := ang3_no (x := x) h2
                unfold isL at h1 h2
                rw [← OY.out] at h2
                rw [← OX.out] at h1
                go_wp2
                try (go_ret; exact ⟨rfl, rfl⟩)
            · obtain ⟨⟨a1, a2⟩, ⟨b1, b2⟩, ⟨c1, c2⟩⟩ := arcs_sure hu j (by omega)
              have : j = 0 ∨ j = 1 ∨ j = 2 ∨ j = 3 ∨ j = 4 ∨ j = 5 ∨ j = 6 ∨ j = 7 := by omega
              rcases this with rfl | rfl | rfl | rfl | rfl | rfl | rfl | rfl
              all_goals
                simp only [oddN_0, oddN_1, oddN_2, oddN_3, oddN_4, oddN_5, oddN_6, oddN_7] at a1 a2 c1 c2
                clear h8 hj
                go_wp2
                go_round
                case rel => exact ⟨_, Nat.succ_le_of_lt (by decide), rfl, rfl⟩
                case measure => simp [intOf]
theorem s_l01AngleWide_zero (y x : Nat) (w : World) (hy : fin .f32 y = true) (hx : fin .f32 x = true) (hz : (isZ y && isZ x) = true) :
    Calls Try.prog 38 #[.float .f64 (wide y), .float .f64 (wide x)] w fun e w' => e = .returned (.float .f64 0) ∧ w' = w := by
  have oy := order_wide_zero hy
  have ox := order_wide_zero hx
  obtain ⟨fy1, fy2⟩ := sub_self_sure (k := .f64) (y := wide y) (by rw [fin_wide, hy])
  obtain ⟨fx1, fx2⟩ := sub_self_sure (k := .f64) (y := wide x) (by rw [fin_wide, hx])
  have h0 : FloatKind.f64.format.order 0 0 = some .eq := by decide +kernel
  obtain ⟨h1, h2⟩ := Bool.and_eq_true_iff.1 hz
  unfold isZ at h1 h2
  rw [← oy] at h1
  rw [← ox] at h2
  clear hy hx hz oy ox
  go_enter Try.func38, Try.ntmps38
  go_wp2
  go_ret
  exact ⟨rfl, rfl⟩
theorem s_l01Angle (y x : Nat) (w : World) :
    Calls Try.prog 24 #[.float .f32 y, .float .f32 x] w fun e w' => ∃ r n, e = .returned (.float .f32 r) ∧ canon .f32 r = canon .f32 (angT (canon .f32 y) (canon .f32 x)) ∧ w' = w.drewN n := by
  cases hf : fin .f32 y && fin .f32 x
  · rw [angT_nan hf, canon_of_nan (isn_qnan .f32)]
    have HI : ∀ w, Hid (isn .f32 (narrowV 9221120237041090561 w) = true) := fun w => isn_narrowV w (by decide +kernel)
    have HW : ∀ w w', Hid ((fin .f64 (wideV y w) && fin .f64 (wideV x w')) = false) := fun w w' => Lib.hid (by rw [fin_wideV, fin_wideV, hf])
    clear hf
    go_enter Try.func24, Try.ntmps24
    go_wp2_with fail
    refine (s_l01AngleWide_nan _ _ _ (HW _ _).out).mono ?_
    rintro e w' ⟨n, rfl, rfl⟩
    go_wp2_with fail
    refine (s_l01Narrow _ _).mono ?_
    rintro e w' ⟨rfl, rfl⟩
    go_wp2
    go_ret
    exact ⟨_, _, rfl, canon_of_nan (HI _).out, rfl⟩
  · obtain ⟨hy, hx⟩ := Bool.and_eq_true_iff.1 hf
    obtain ⟨wy1, wy2⟩ := wide_sure (not_nan_of_fin hy)
    obtain ⟨wx1, wx2⟩ := wide_sure (not_nan_of_fin hx)
    have HY := Lib.hid hy; have HX := Lib.hid hx
    cases hz : isZ y && isZ x
    · rw [angT_main hy hx hz]
      obtain ⟨n1, n2⟩ := narrow_bd_sure (ang3_bd (tan_bd hy hx hz)) (by decide) (by decide)
      have HZ := Lib.hid hz; clear hy hx hz hf
      go_enter Try.func24, Try.ntmps24
      go_wp2_with fail
      refine (s_l01AngleWide _ _ _ HY.out HX.out HZ.out).mono ?_
      rintro e w' ⟨rfl, rfl⟩
      go_wp2_with fail
      refine (s_l01Narrow _ _).mono ?_
      rintro e w' ⟨rfl, rfl⟩
      go_wp2
      go_ret
      exact ⟨_, 0, rfl, rfl, rfl⟩
    · rw [angT_zero hy hx hz]
      have n1 : ∀ w, narrowV 0 w = 0 := (narrow_sure (b := 0) (by decide +kernel) (by decide +kernel)).1
      have n2 : narrowN 0 = 0 := (narrow_sure (b := 0) (by decide +kernel) (by decide +kernel)).2
      have HZ := Lib.hid hz; clear hy hx hz hf
      go_enter Try.func24, Try.ntmps24
      go_wp2_with fail
      refine (s_l01AngleWide_zero _ _ _ HY.out HX.out HZ.out).mono ?_
      rintro e w' ⟨rfl, rfl⟩
      go_wp2_with fail
      refine (s_l01Narrow _ _).mono ?_
      rintro e w' ⟨rfl, rfl⟩
      go_wp2
      go_ret
      exact ⟨_, 0, rfl, rfl, rfl⟩
theorem s_AngleTurns (y x : Nat) (w : World) :
    Calls Try.prog 10 #[.float .f32 y, .float .f32 x] w fun e w' => ∃ r n, e = .returned (.float .f32 r) ∧ canon .f32 r = canon .f32 (angT (canon .f32 y) (canon .f32 x)) ∧ w' = w.drewN n := by
  go_enter Try.func10, Try.ntmps10
  go_wp2_with fail
  refine (s_l01Angle _ _ _).mono ?_
  rintro e w' ⟨r, n, rfl, hr, rfl⟩
  have HR := Lib.hid hr; clear hr
  go_wp2
  go_ret
  exact ⟨_, _, rfl, HR.out, rfl⟩
theorem law_FnExactAngleTurns (y x : Nat) (w : World) (_h1 : y < words .f32) (_h2 : x < words .f32) :
    Calls Try.prog 4 #[.float .f32 y, .float .f32 x] w fun e w' => e = .returned (.bool true) ∧ Grown w w' := by
  go_enter Try.func4, Try.ntmps4
  go_wp2_with fail
  refine (s_AngleTurns _ _ _).mono ?_
  rintro e w' ⟨r, n, rfl, hr, rfl⟩
  have HR := Lib.hid hr; clear hr
  go_wp2_with fail
  refine (i_AngleTurns _ _ _).mono ?_
  rintro e w' ⟨r', n', rfl, hr, rfl⟩
  have HR' := Lib.hid hr; clear hr
  go_wp2_with fail
  refine (sameFloat_yes _ _ _ (by rw [canon_wideV, canon_wideV, HR.out, HR'.out])).mono ?_
  rintro e w' ⟨m, rfl, rfl⟩
  go_wp2
  go_ret
  exact ⟨rfl, grown_drewN _ _⟩
end Go.Proofs.Ytbgcelodgefanag

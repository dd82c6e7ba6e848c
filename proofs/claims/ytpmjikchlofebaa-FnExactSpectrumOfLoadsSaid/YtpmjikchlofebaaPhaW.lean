/- Contracts of phasors. No statement is proved here. -/
import Derived.Test.YtpmjikchlofebaaSinW
import Derived.Test.YtpmjikchlofebaaPha
namespace Go.Proofs.Ytpmjikchlofebaa
open Go Go.RowKit
theorem i_NarrowComplex (a b : Nat) (w : World) :
    Calls Try.prog 169 #[.complex .f64 a b] w fun e w' => e = .returned (.complex .f32 (narrowV a w) (narrowV b (w.drewN (narrowN a)))) ∧ w' = w.drewN (narrowN a + narrowN b) := by
  go_enter Try.func169, Try.ntmps169
  go_wp2_with fail
  refine (i_NarrowNumber _ _).mono ?_
  rintro e w' ⟨rfl, rfl⟩
  go_wp2_with fail
  refine (i_NarrowNumber _ _).mono ?_
  rintro e w' ⟨rfl, rfl⟩
  go_wp2
  go_ret
  exact ⟨rfl, rfl⟩
set_option maxRecDepth 100000 in
set_option maxHeartbeats 2000000 in
theorem i_PhasorOf_near (x : Nat) (w : World) (hfin : fin .f64 x = true) (hfar : far x = false) (hlt : x < 18446744073709551616) :
    Calls Try.prog 150 #[.float .f64 x] w fun e w' => e = .returned (.complex .f32 (narrow (phX x)) (narrow (phY x))) ∧ w' = w := by
  have hx := near_bd hfin hfar
  have hf := fr_bd hx
  have hle := fr_le hx
  have HF := Lib.hid hfin
  have HX : Hid (phX x = phRe (quarters (fr x)) (phC (qit (fr x) (quarters (fr x)))) (phS (qit (fr x) (quarters (fr x))))) := rfl
  have HY : Hid (phY x = phIm (quarters (fr x)) (phC (qit (fr x) (quarters (fr x)))) (phS (qit (fr x) (quarters (fr x))))) := rfl
  unfold far at hfar
  clear hfin
  go_enter Try.func150, Try.ntmps150
  go_wp2_with fail
  refine (i_isFinite64 x _ hlt).mono ?_
  rw [HF.out]
  rintro e w' ⟨rfl, rfl⟩
  go_wp2_with fail
  refine (m_Abs _ _ hlt).mono ?_
  rintro e w' ⟨rfl, rfl⟩
  go_wp2_with fail
  refine (i_fractionOf _ _ hx).mono ?_
  rintro e w' ⟨rfl, rfl⟩
  clear hfar hx
  generalize fr x = f at *
  go_wp2
  go_loop [3, 4] (fun g q => ∃ k : Nat, k ≤ 4 ∧ q = .int .i64 k ∧ g = .float .f64 (qit f k) ∧ Hid (∀ i, i < k → big4 (qit f i) = true)) (fun _ q => 4 - (intOf q).toNat)
  case atStart => exact ⟨0, by omega, rfl, rfl, Lib.hid (fun i hi => absurd hi (Nat.not_lt_zero i))⟩
  case round =>
    obtain ⟨k, hk, rfl, rfl, hall⟩ := hrel
    cases hb : big4 (qit f k)
    · have hq := quarters_is hk hall.out hb
      have hg := phaFacts (qit_bd hf k hk) (by omega) (by omega)
      rw [hq] at HX HY
      clear hq
      obtain ⟨bg, gf, s1, s2, bd, df, c1, c2, t1, t2, nc1, nc2, ns1, ns2, oc1, oc2, os1, os2⟩ := hg
      have hC : Hid (sinF (fr (fop .sub .f64 4598175219545276416 (qit f k))) = phC (qit f k)) := rfl
      have hS : Hid (sinF (fr (qit f k)) = phS (qit f k)) := rfl
      unfold big4 at hb
      clear hall hle hf gf df
      have : k = 0 ∨ k = 1 ∨ k = 2 ∨ k = 3 ∨ k = 4 := by omega
      rcases this with rfl | rfl | rfl | rfl | rfl
      all_goals
        generalize qit f _ = g at *
        go_wp2_with fail
        refine (i_sineOf _ _ bd).mono ?_
        rw [hC.out]
        rintro e w' ⟨rfl, rfl⟩
        go_wp2_with fail
        refine (i_sineOf _ _ bg).mono ?_
        rw [hS.out]
        rintro e w' ⟨rfl, rfl⟩
        go_wp2_with fail
        refine (i_NarrowComplex _ _ _).mono ?_
        rintro e w' ⟨rfl, rfl⟩
        go_wp2
        go_ret
        exact ⟨by rw [HX.out, HY.out]; rfl, rfl⟩
    · have hk4 : k < 4 := by
        rcases Nat.lt_or_ge k 4 with h | h
        · exact h
        · exfalso
          have : k = 4 := by omega
          subst this
          have := quarters_end hle (hall.out 0 (by decide)) (hall.out 1 (by decide)) (hall.out 2 (by decide)) (hall.out 3 (by decide))
          rw [this] at hb; cases hb
      obtain ⟨q1, q2⟩ := qit_sure hf k hk4
      have hall' : Hid (∀ i, i < k + 1 → big4 (qit f i) = true) := Lib.hid (fun i hi => by
        rcases Nat.lt_or_ge i k with h | h
        · exact hall.out i h
        · have : i = k := by omega
          subst this; exact hb)
      unfold big4 at hb
      clear hall HX HY hle
      go_wp2
      go_round
      case rel => exact ⟨k + 1, by omega, by go_num, rfl, hall'⟩
      case measure => simp [intOf]; omega
theorem i_PhasorOf_nan (x : Nat) (w : World) (hfin : fin .f64 x = false) (hlt : x < 18446744073709551616) :
    Calls Try.prog 150 #[.float .f64 x] w fun e w' => ∃ a b n, e = .returned (.complex .f32 a b) ∧ canon .f32 a = qnan .f32 ∧ canon .f32 b = qnan .f32 ∧ w' = w.drewN n := by
  have HI : ∀ w, Hid (isn .f32 (narrowV 9221120237041090561 w) = true) := fun w => isn_narrowV w (by decide +kernel)
  have HF := Lib.hid hfin; clear hfin
  go_enter Try.func150, Try.ntmps150
  go_wp2_with fail
  refine (i_isFinite64 x _ hlt).mono ?_
  rw [HF.out]
  rintro e w' ⟨rfl, rfl⟩
  go_wp2_with fail
  refine (m_NaN _).mono ?_
  rintro e w' ⟨rfl, rfl⟩
  go_wp2_with fail
  refine (m_NaN _).mono ?_
  rintro e w' ⟨rfl, rfl⟩
  go_wp2_with fail
  refine (i_NarrowComplex _ _ _).mono ?_
  rintro e w' ⟨rfl, rfl⟩
  go_wp2
  go_ret
  exact ⟨_, _, _, rfl, canon_of_nan (HI _).out, canon_of_nan (HI _).out, rfl⟩
theorem i_PhasorOf_far (x : Nat) (w : World) (hfin : fin .f64 x = true) (hfar : far x = true) (hlt : x < 18446744073709551616) :
    Calls Try.prog 150 #[.float .f64 x] w fun e w' => e = .returned (.complex .f32 1065353216 0) ∧ w' = w := by
  have HF := Lib.hid hfin; clear hfin
  unfold far at hfar
  go_enter Try.func150, Try.ntmps150
  go_wp2_with fail
  refine (i_isFinite64 x _ hlt).mono ?_
  rw [HF.out]
  rintro e w' ⟨rfl, rfl⟩
  go_wp2_with fail
  refine (m_Abs _ _ hlt).mono ?_
  rintro e w' ⟨rfl, rfl⟩
  go_wp2
  go_ret
  exact ⟨rfl, rfl⟩
theorem s_l01Phasor_nan (x : Nat) (w : World) (hfin : fin .f64 x = false) :
    Calls Try.prog 148 #[.float .f64 x] w fun e w' => ∃ n, e = .returned (.complex .f32 2143289344 2143289344) ∧ w' = w.drewN n := by
  have h1 := sub_self_nan hfin
  clear hfin
  go_enter Try.func148, Try.ntmps148
  go_wp2_with fail
  refine (l01From_any 2143289344 _ (by decide) (by decide)).mono ?_
  rintro e w' ⟨rfl, rfl⟩
  go_wp2_with fail
  refine (l01From_any 2143289344 _ (by decide) (by decide)).mono ?_
  rintro e w' ⟨rfl, rfl⟩
  go_wp2
  go_ret
  exact ⟨_, rfl, rfl⟩
theorem s_l01Phasor_far (x : Nat) (w : World) (hx : fin .f64 x = true) (hf : far x = true) :
    Calls Try.prog 148 #[.float .f64 x] w fun e w' => e = .returned (.complex .f32 1065353216 0) ∧ w' = w := by
  obtain ⟨h1, h2⟩ := sub_self_sure hx
  have h3 := far_spec hx
  rw [hf] at h3
  have h0 : FloatKind.f64.format.order 0 0 = some .eq := by decide +kernel
  clear hx hf
  cases h4 : (FloatKind.f64.format.order x 4841369599423283200 == some .gt || FloatKind.f64.format.order x 4841369599423283200 == some .eq)
  · rw [h4, Bool.false_or] at h3
    go_enter Try.func148, Try.ntmps148
    go_wp2
    go_ret
    exact ⟨rfl, rfl⟩
  · clear h3
    go_enter Try.func148, Try.ntmps148
    go_wp2
    go_ret
    exact ⟨rfl, rfl⟩
set_option maxRecDepth 100000 in
set_option maxHeartbeats 3000000 in
theorem s_l01Phasor_near (x : Nat) (w : World) (hfin : fin .f64 x = true) (hfar : far x = false) :
    Calls Try.prog 148 #[.float .f64 x] w fun e w' => e = .returned (.complex .f32 (narrow (phX x)) (narrow (phY x))) ∧ w' = w := by
  have hx := near_bd hfin hfar
  have hf := fr_bd hx
  have hle := fr_le hx
  obtain ⟨h1, h2⟩ := sub_self_sure hfin
  have h3 := far_spec hfin
  rw [hfar] at h3
  have h4 := (Bool.or_eq_false_iff.1 h3).1
  have h5 := (Bool.or_eq_false_iff.1 h3).2
  have h0 : FloatKind.f64.format.order 0 0 = some .eq := by decide +kernel
  have hc := fun w => conv_toI x w (bd_mono hx (by decide))
  obtain ⟨s1, s2⟩ := bd_sure (frac_bd hx)
  have hd : fop .sub .f64 x (floatOfInt .f64 (toI x)) = frD x := rfl
  rw [hd] at s1
  have HX : Hid (phX x = phRe (quarters (fr x)) (phC (qit (fr x) (quarters (fr x)))) (phS (qit (fr x) (quarters (fr x))))) := rfl
  have HY : Hid (phY x = phIm (quarters (fr x)) (phC (qit (fr x) (quarters (fr x)))) (phS (qit (fr x) (quarters (fr x))))) := rfl
  clear hd h3 hfar hfin hx
  cases hn : frNeg x
  · have Hfr : fr x = frD x := by unfold fr; rw [hn]; rfl
    rw [Hfr] at hf hle HX HY
    clear Hfr
    unfold frNeg at hn
    generalize hfx : frD x = f at *
    clear hfx
    go_enter Try.func148, Try.ntmps148
    go_wp2
    go_loop [3, 4] (fun g q => ∃ k : Nat, k ≤ 4 ∧ q = .int .i64 k ∧ g = .float .f64 (qit f k) ∧ Hid (∀ i, i < k → big4 (qit f i) = true)) (fun _ q => 4 - (intOf q).toNat)
    case atStart => exact ⟨0, by omega, rfl, rfl, Lib.hid (fun i hi => absurd hi (Nat.not_lt_zero i))⟩
    case round =>
      obtain ⟨k, hk, rfl, rfl, hall⟩ := hrel
      cases hb : big4 (qit f k)
      · have hq := quarters_is hk hall.out hb
        have hg := phaFacts (qit_bd hf k hk) (by omega) (by omega)
        rw [hq] at HX HY
        clear hq
        obtain ⟨bg, gf, s1, s2, bd, df, c1, c2, t1, t2, nc1, nc2, ns1, ns2, oc1, oc2, os1, os2⟩ := hg
        have hC : Hid (sinF (fr (fop .sub .f64 4598175219545276416 (qit f k))) = phC (qit f k)) := rfl
        have hS : Hid (sinF (fr (qit f k)) = phS (qit f k)) := rfl
        unfold big4 at hb
        have GF := Lib.hid gf; have DF := Lib.hid df
        clear hall hle hf gf df
        have : k = 0 ∨ k = 1 ∨ k = 2 ∨ k = 3 ∨ k = 4 := by omega
        rcases this with rfl | rfl | rfl | rfl | rfl
        all_goals
          generalize qit f _ = g at *
          go_wp2_with fail
          refine (s_l01SineWide _ _ bd DF.out).mono ?_
          rw [hC.out]
          rintro e w' ⟨rfl, rfl⟩
          go_wp2_with fail
          refine (s_l01SineWide _ _ bg GF.out).mono ?_
          rw [hS.out]
          rintro e w' ⟨rfl, rfl⟩
          go_wp2_with fail
          refine (s_l01Narrow _ _).mono ?_
          rintro e w' ⟨rfl, rfl⟩
          go_wp2_with fail
          refine (s_l01Narrow _ _).mono ?_
          rintro e w' ⟨rfl, rfl⟩
          go_wp2
          go_ret
          exact ⟨by rw [HX.out, HY.out]; rfl, rfl⟩
      · have hk4 : k < 4 := by
          rcases Nat.lt_or_ge k 4 with h | h
          · exact h
          · exfalso
            have : k = 4 := by omega
            subst this
            have := quarters_end hle (hall.out 0 (by decide)) (hall.out 1 (by decide)) (hall.out 2 (by decide)) (hall.out 3 (by decide))
            rw [this] at hb; cases hb
        obtain ⟨q1, q2⟩ := qit_sure hf k hk4
        have hall' : Hid (∀ i, i < k + 1 → big4 (qit f i) = true) := Lib.hid (fun i hi => by
          rcases Nat.lt_or_ge i k with h | h
          · exact hall.out i h
          · have : i = k := by omega
            subst this; exact hb)
        unfold big4 at hb
        clear hall HX HY hle
        go_wp2
        go_round
        case rel => exact ⟨k + 1, by omega, by go_num, rfl, hall'⟩
        case measure => simp [intOf]; omega
  · have Hfr : fr x = fop .add .f64 (frD x) 4607182418800017408 := by unfold fr; rw [hn]; rfl
    rw [Hfr] at hf hle HX HY
    obtain ⟨s3, s4⟩ := bd_sure hf
    clear Hfr
    unfold frNeg at hn
    generalize fop .add .f64 (frD x) 4607182418800017408 = f at *
    go_enter Try.func148, Try.ntmps148
    go_wp2
    go_loop [3, 4] (fun g q => ∃ k : Nat, k ≤ 4 ∧ q = .int .i64 k ∧ g = .float .f64 (qit f k) ∧ Hid (∀ i, i < k → big4 (qit f i) = true)) (fun _ q => 4 - (intOf q).toNat)
    case atStart => exact ⟨0, by omega, rfl, rfl, Lib.hid (fun i hi => absurd hi (Nat.not_lt_zero i))⟩
    case round =>
      obtain ⟨k, hk, rfl, rfl, hall⟩ := hrel
      cases hb : big4 (qit f k)
      · have hq := quarters_is hk hall.out hb
        have hg := phaFacts (qit_bd hf k hk) (by omega) (by omega)
        rw [hq] at HX HY
        clear hq
        obtain ⟨bg, gf, s1, s2, bd, df, c1, c2, t1, t2, nc1, nc2, ns1, ns2, oc1, oc2, os1, os2⟩ := hg
        have hC : Hid (sinF (fr (fop .sub .f64 4598175219545276416 (qit f k))) = phC (qit f k)) := rfl
        have hS : Hid (sinF (fr (qit f k)) = phS (qit f k)) := rfl
        unfold big4 at hb
        have GF := Lib.hid gf; have DF := Lib.hid df
        clear hall hle hf gf df
        have : k = 0 ∨ k = 1 ∨ k = 2 ∨ k = 3 ∨ k = 4 := by omega
        rcases this with rfl | rfl | rfl | rfl | rfl
        all_goals
          generalize qit f _ = g at *
          go_wp2_with fail
          refine (s_l01SineWide _ _ bd DF.out).mono ?_
          rw [hC.out]
          rintro e w' ⟨rfl, rfl⟩
          go_wp2_with fail
          refine (s_l01SineWide _ _ bg GF.out).mono ?_
          rw [hS.out]
          rintro e w' ⟨rfl, rfl⟩
          go_wp2_with fail
          refine (s_l01Narrow _ _).mono ?_
          rintro e w' ⟨rfl, rfl⟩
          go_wp2_with fail
          refine (s_l01Narrow _ _).mono ?_
          rintro e w' ⟨rfl, rfl⟩
          go_wp2
          go_ret
          exact ⟨by rw [HX.out, HY.out]; rfl, rfl⟩
      · have hk4 : k < 4 := by
          rcases Nat.lt_or_ge k 4 with h | h
          · exact h
          · exfalso
            have : k = 4 := by omega
            subst this
            have := quarters_end hle (hall.out 0 (by decide)) (hall.out 1 (by decide)) (hall.out 2 (by decide)) (hall.out 3 (by decide))
            rw [this] at hb; cases hb
        obtain ⟨q1, q2⟩ := qit_sure hf k hk4
        have hall' : Hid (∀ i, i < k + 1 → big4 (qit f i) = true) := Lib.hid (fun i hi => by
          rcases Nat.lt_or_ge i k with h | h
          · exact hall.out i h
          · have : i = k := by omega
            subst this; exact hb)
        unfold big4 at hb
        clear hall HX HY hle
        go_wp2
        go_round
        case rel => exact ⟨k + 1, by omega, by go_num, rfl, hall'⟩
        case measure => simp [intOf]; omega
@[go_sem] theorem conv_cwide (a b : Nat) (w : World) : (convert 126 130 (.complex .f32 a b)).run Try.prog w = .ok (.complex .f64 (wideV a w) (wideV b (w.drewN (wideN a)))) (w.drewN (wideN a + wideN b)) :=
  run_cwide w _ _ a b (by kernel_rfl) (by kernel_rfl)
theorem sameComplex_yes (a b c d : Nat) (w : World) (h : canon .f64 a = canon .f64 c) (h' : canon .f64 b = canon .f64 d) :
    Calls Try.prog 109 #[.complex .f64 a b, .complex .f64 c d] w fun e w' => ∃ n, e = .returned (.bool true) ∧ w' = w.drewN n := by
  have H := Lib.hid h; have H' := Lib.hid h'; clear h h'
  go_enter Try.func109, Try.ntmps109
  go_wp2_with fail
  refine (sameFloat_yes _ _ _ H.out).mono ?_
  rintro e w' ⟨n, rfl, rfl⟩
  go_wp2_with fail
  refine (sameFloat_yes _ _ _ H'.out).mono ?_
  rintro e w' ⟨m, rfl, rfl⟩
  go_wp2
  go_ret
  exact ⟨_, rfl, rfl⟩
/-- a phasor, up to which not-a-number its parts are -/
def phA (x : Nat) : Nat := if fin .f64 x then if far x then 1065353216 else canon .f32 (narrow (phX x)) else qnan .f32
def phB (x : Nat) : Nat := if fin .f64 x then if far x then 0 else canon .f32 (narrow (phY x)) else qnan .f32
theorem i_PhasorOf (x : Nat) (w : World) (hlt : x < 18446744073709551616) :
    Calls Try.prog 150 #[.float .f64 x] w fun e w' => ∃ a b n, e = .returned (.complex .f32 a b) ∧ canon .f32 a = phA x ∧ canon .f32 b = phB x ∧ w' = w.drewN n := by
  unfold phA phB
  cases hf : fin .f64 x
  · refine (i_PhasorOf_nan x w hf hlt).mono ?_
    rintro e w' ⟨a, b, n, rfl, h1, h2, rfl⟩
    exact ⟨a, b, n, rfl, by rw [h1, if_neg (by decide)], by rw [h2, if_neg (by decide)], rfl⟩
  · cases hg : far x
    · refine (i_PhasorOf_near x w hf hg hlt).mono ?_
      rintro e w' ⟨rfl, rfl⟩
      exact ⟨_, _, 0, rfl, by rw [if_pos rfl, if_neg (by decide)], by rw [if_pos rfl, if_neg (by decide)], rfl⟩
    · refine (i_PhasorOf_far x w hf hg hlt).mono ?_
      rintro e w' ⟨rfl, rfl⟩
      exact ⟨_, _, 0, rfl, by rw [if_pos rfl, if_pos rfl]; decide +kernel, by rw [if_pos rfl, if_pos rfl]; decide +kernel, rfl⟩
theorem s_l01Phasor (x : Nat) (w : World) :
    Calls Try.prog 148 #[.float .f64 x] w fun e w' => ∃ a b n, e = .returned (.complex .f32 a b) ∧ canon .f32 a = phA x ∧ canon .f32 b = phB x ∧ w' = w.drewN n := by
  unfold phA phB
  cases hf : fin .f64 x
  · refine (s_l01Phasor_nan x w hf).mono ?_
    rintro e w' ⟨n, rfl, rfl⟩
    exact ⟨_, _, n, rfl, by rw [if_neg (by decide)]; decide +kernel, by rw [if_neg (by decide)]; decide +kernel, rfl⟩
  · cases hg : far x
    · refine (s_l01Phasor_near x w hf hg).mono ?_
      rintro e w' ⟨rfl, rfl⟩
      exact ⟨_, _, 0, rfl, by rw [if_pos rfl, if_neg (by decide)], by rw [if_pos rfl, if_neg (by decide)], rfl⟩
    · refine (s_l01Phasor_far x w hf hg).mono ?_
      rintro e w' ⟨rfl, rfl⟩
      exact ⟨_, _, 0, rfl, by rw [if_pos rfl, if_pos rfl]; decide +kernel, by rw [if_pos rfl, if_pos rfl]; decide +kernel, rfl⟩
end Go.Proofs.Ytpmjikchlofebaa

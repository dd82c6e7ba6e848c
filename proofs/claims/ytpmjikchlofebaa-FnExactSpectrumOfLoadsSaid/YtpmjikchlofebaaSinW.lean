/- Contracts of the functions of sines. No statement is proved here. -/
import Derived.Test.YtpmjikchlofebaaBits
import Derived.Test.YtpmjikchlofebaaSin
import Derived.Test.YtpmjikchlofebaaRoot
import Derived.LoopTactic
namespace Go.Proofs.Ytpmjikchlofebaa
open Go Go.RowKit
theorem conv_toI (x : Nat) (w : World) (h : Bd .f64 62 x) : (convert 30 2 (.float .f64 x)).run Try.prog w = .ok (.int .i64 (toI x)) w :=
  run_convert_float_int w _ _ .f64 .i64 x _ (by kernel_rfl) (by kernel_rfl) (toI_val h)
@[go_sem] theorem conv_ofI (n : Int) (w : World) : (convert 2 30 (.int .i64 n)).run Try.prog w = .ok (.float .f64 (floatOfInt .f64 n)) w :=
  run_convert_int_float w _ _ .i64 .f64 n (by kernel_rfl) (by kernel_rfl)
theorem i_fractionOf (x : Nat) (w : World) (hx : Bd .f64 52 x) :
    Calls Try.prog 172 #[.float .f64 x] w fun e w' => e = .returned (.float .f64 (fr x)) ∧ w' = w := by
  have hc := fun w => conv_toI x w (bd_mono hx (by decide))
  obtain ⟨s1, s2⟩ := bd_sure (frac_bd hx)
  have hd : fop .sub .f64 x (floatOfInt .f64 (toI x)) = frD x := rfl
  rw [hd] at s1
  cases hn : frNeg x
  · have hf : fr x = frD x := by unfold fr; rw [hn]; rfl
    rw [hf]
    unfold frNeg at hn
    clear hd hf hx
    go_enter Try.func172, Try.ntmps172
    go_wp2
    go_ret
    exact ⟨rfl, rfl⟩
  · have hf : fr x = fop .add .f64 (frD x) 4607182418800017408 := by unfold fr; rw [hn]; rfl
    have h1 := fr_bd hx
    rw [hf] at h1 ⊢
    obtain ⟨s3, s4⟩ := bd_sure h1
    unfold frNeg at hn
    clear hd hf hx h1
    go_enter Try.func172, Try.ntmps172
    go_wp2
    go_ret
    exact ⟨rfl, rfl⟩
set_option maxHeartbeats 1600000 in
theorem i_sineOf (x : Nat) (w : World) (hx : Bd .f64 52 x) :
    Calls Try.prog 173 #[.float .f64 x] w fun e w' => e = .returned (.float .f64 (sinF (fr x))) ∧ w' = w := by
  have hc := i_fractionOf x w hx
  have hf := fr_bd hx
  have HC := Lib.hid hc; clear hc hx
  generalize fr x = f at hf HC ⊢
  have hu := sqr_bd hf
  obtain ⟨z1, z2, u1, u2, r1, r2⟩ := sinFacts hf
  cases hb : below f <;> cases ho : over4 (red1 f)
  · have Hs : Hid (sinF f = sinP f) := Lib.hid (sinF_no hb)
    have q2 := red_no ho
    rw [q2] at z1 z2
    clear q2
    have q1 := red1_no hb
    rw [q1] at ho z1 z2
    clear q1
    unfold below at hb
    unfold over4 at ho
    clear hf
    go_enter Try.func173, Try.ntmps173
    go_wp2_with fail
    refine HC.out.mono ?_
    rintro e w' ⟨rfl, rfl⟩
    go_wp2
    go_loop [7, 8] (fun p k => ∃ j : Nat, j ≤ 8 ∧ k = .int .i64 (8 - (j : Int)) ∧ p = .float .f64 (pol (sqr (ang f)) j)) (fun _ k => (intOf k).toNat)
    case atStart => exact ⟨0, by omega, rfl, rfl⟩
    case round =>
      obtain ⟨j, hj, rfl, rfl⟩ := hrel
      by_cases h8 : j = 8
      · subst h8
        go_wp2
        go_ret
        exact ⟨by rw [Hs.out]; rfl, rfl⟩
      · obtain ⟨⟨m1, m2⟩, ⟨d1, d2⟩, ⟨e1, e2⟩⟩ := pol_sure hu j (by omega)
        have : j = 0 ∨ j = 1 ∨ j = 2 ∨ j = 3 ∨ j = 4 ∨ j = 5 ∨ j = 6 ∨ j = 7 := by omega
        rcases this with rfl | rfl | rfl | rfl | rfl | rfl | rfl | rfl
        all_goals
          simp only [den_0, den_1, den_2, den_3, den_4, den_5, den_6, den_7] at d1 d2 e1 e2
          clear h8 hj
          go_wp2
          go_round
          case rel => exact ⟨_, Nat.succ_le_of_lt (by decide), rfl, rfl⟩
          case measure => simp [intOf]
  · have Hs : Hid (sinF f = sinP f) := Lib.hid (sinF_no hb)
    obtain ⟨o1, o2⟩ := red_sure hf ho
    have q1 := red1_no hb
    rw [q1] at ho o1 o2
    clear q1
    unfold below at hb
    unfold over4 at ho
    clear hf
    go_enter Try.func173, Try.ntmps173
    go_wp2_with fail
    refine HC.out.mono ?_
    rintro e w' ⟨rfl, rfl⟩
    go_wp2
    go_loop [7, 8] (fun p k => ∃ j : Nat, j ≤ 8 ∧ k = .int .i64 (8 - (j : Int)) ∧ p = .float .f64 (pol (sqr (ang f)) j)) (fun _ k => (intOf k).toNat)
    case atStart => exact ⟨0, by omega, rfl, rfl⟩
    case round =>
      obtain ⟨j, hj, rfl, rfl⟩ := hrel
      by_cases h8 : j = 8
      · subst h8
        go_wp2
        go_ret
        exact ⟨by rw [Hs.out]; rfl, rfl⟩
      · obtain ⟨⟨m1, m2⟩, ⟨d1, d2⟩, ⟨e1, e2⟩⟩ := pol_sure hu j (by omega)
        have : j = 0 ∨ j = 1 ∨ j = 2 ∨ j = 3 ∨ j = 4 ∨ j = 5 ∨ j = 6 ∨ j = 7 := by omega
        rcases this with rfl | rfl | rfl | rfl | rfl | rfl | rfl | rfl
        all_goals
          simp only [den_0, den_1, den_2, den_3, den_4, den_5, den_6, den_7] at d1 d2 e1 e2
          clear h8 hj
          go_wp2
          go_round
          case rel => exact ⟨_, Nat.succ_le_of_lt (by decide), rfl, rfl⟩
          case measure => simp [intOf]
  · have Hs : Hid (sinF f = Op.negFloat .f64 (sinP f)) := Lib.hid (sinF_yes hb)
    obtain ⟨p1, p2⟩ := red1_sure hf hb
    have q2 := red_no ho
    rw [q2] at z1 z2
    clear q2
    unfold below at hb
    unfold over4 at ho
    clear hf
    go_enter Try.func173, Try.ntmps173
    go_wp2_with fail
    refine HC.out.mono ?_
    rintro e w' ⟨rfl, rfl⟩
    go_wp2
    go_loop [7, 8] (fun p k => ∃ j : Nat, j ≤ 8 ∧ k = .int .i64 (8 - (j : Int)) ∧ p = .float .f64 (pol (sqr (ang f)) j)) (fun _ k => (intOf k).toNat)
    case atStart => exact ⟨0, by omega, rfl, rfl⟩
    case round =>
      obtain ⟨j, hj, rfl, rfl⟩ := hrel
      by_cases h8 : j = 8
      · subst h8
        go_wp2
        go_ret
        exact ⟨by rw [Hs.out]; rfl, rfl⟩
      · obtain ⟨⟨m1, m2⟩, ⟨d1, d2⟩, ⟨e1, e2⟩⟩ := pol_sure hu j (by omega)
        have : j = 0 ∨ j = 1 ∨ j = 2 ∨ j = 3 ∨ j = 4 ∨ j = 5 ∨ j = 6 ∨ j = 7 := by omega
        rcases this with rfl | rfl | rfl | rfl | rfl | rfl | rfl | rfl
        all_goals
          simp only [den_0, den_1, den_2, den_3, den_4, den_5, den_6, den_7] at d1 d2 e1 e2
          clear h8 hj
          go_wp2
          go_round
          case rel => exact ⟨_, Nat.succ_le_of_lt (by decide), rfl, rfl⟩
          case measure => simp [intOf]
  · have Hs : Hid (sinF f = Op.negFloat .f64 (sinP f)) := Lib.hid (sinF_yes hb)
    obtain ⟨p1, p2⟩ := red1_sure hf hb
    obtain ⟨o1, o2⟩ := red_sure hf ho
    unfold below at hb
    unfold over4 at ho
    clear hf
    go_enter Try.func173, Try.ntmps173
    go_wp2_with fail
    refine HC.out.mono ?_
    rintro e w' ⟨rfl, rfl⟩
    go_wp2
    go_loop [7, 8] (fun p k => ∃ j : Nat, j ≤ 8 ∧ k = .int .i64 (8 - (j : Int)) ∧ p = .float .f64 (pol (sqr (ang f)) j)) (fun _ k => (intOf k).toNat)
    case atStart => exact ⟨0, by omega, rfl, rfl⟩
    case round =>
      obtain ⟨j, hj, rfl, rfl⟩ := hrel
      by_cases h8 : j = 8
      · subst h8
        go_wp2
        go_ret
        exact ⟨by rw [Hs.out]; rfl, rfl⟩
      · obtain ⟨⟨m1, m2⟩, ⟨d1, d2⟩, ⟨e1, e2⟩⟩ := pol_sure hu j (by omega)
        have : j = 0 ∨ j = 1 ∨ j = 2 ∨ j = 3 ∨ j = 4 ∨ j = 5 ∨ j = 6 ∨ j = 7 := by omega
        rcases this with rfl | rfl | rfl | rfl | rfl | rfl | rfl | rfl
        all_goals
          simp only [den_0, den_1, den_2, den_3, den_4, den_5, den_6, den_7] at d1 d2 e1 e2
          clear h8 hj
          go_wp2
          go_round
          case rel => exact ⟨_, Nat.succ_le_of_lt (by decide), rfl, rfl⟩
          case measure => simp [intOf]
theorem m_NaN (w : World) : Calls Try.prog 170 #[] w fun e w' => e = .returned (.float .f64 9221120237041090561) ∧ w' = w := by
  go_enter Try.func170, Try.ntmps170
  go_wp2
  go_ret
  exact ⟨rfl, rfl⟩
theorem s_l01SineWide_nan (x : Nat) (w : World) (hx : fin .f64 x = false) :
    Calls Try.prog 168 #[.float .f64 x] w fun e w' => ∃ n, e = .returned (.float .f64 9221120237041090561) ∧ w' = w.drewN n := by
  have h1 := sub_self_nan hx
  clear hx
  go_enter Try.func168, Try.ntmps168
  go_wp2_with fail
  refine (m_NaN _).mono ?_
  rintro e w' ⟨rfl, rfl⟩
  go_wp2
  go_ret
  exact ⟨_, rfl, rfl⟩
theorem s_l01SineWide_far (x : Nat) (w : World) (hx : fin .f64 x = true) (hf : far x = true) :
    Calls Try.prog 168 #[.float .f64 x] w fun e w' => e = .returned (.float .f64 0) ∧ w' = w := by
  obtain ⟨h1, h2⟩ := sub_self_sure hx
  have h3 := far_spec hx
  rw [hf] at h3
  have h0 : FloatKind.f64.format.order 0 0 = some .eq := by decide +kernel
  clear hx hf
  cases h4 : (FloatKind.f64.format.order x 4841369599423283200 == some .gt || FloatKind.f64.format.order x 4841369599423283200 == some .eq)
  · rw [h4, Bool.false_or] at h3
    go_enter Try.func168, Try.ntmps168
    go_wp2
    go_ret
    exact ⟨rfl, rfl⟩
  · clear h3
    go_enter Try.func168, Try.ntmps168
    go_wp2
    go_ret
    exact ⟨rfl, rfl⟩
set_option maxHeartbeats 1600000 in
theorem s_l01SineWide (x : Nat) (w : World) (hx : Bd .f64 52 x) (hfar : far x = false) :
    Calls Try.prog 168 #[.float .f64 x] w fun e w' => e = .returned (.float .f64 (sinF (fr x))) ∧ w' = w := by
  obtain ⟨h1, h2⟩ := sub_self_sure (bd_fin hx)
  have h3 := far_spec (bd_fin hx)
  rw [hfar] at h3
  have h4 := (Bool.or_eq_false_iff.1 h3).1
  have h5 := (Bool.or_eq_false_iff.1 h3).2
  have h0 : FloatKind.f64.format.order 0 0 = some .eq := by decide +kernel
  have hc := fun w => conv_toI x w (bd_mono hx (by decide))
  obtain ⟨s1, s2⟩ := bd_sure (frac_bd hx)
  have hd : fop .sub .f64 x (floatOfInt .f64 (toI x)) = frD x := rfl
  rw [hd] at s1
  have hf := fr_bd hx
  clear hd h3 hfar
  cases hn : frNeg x
  · have Hfr : fr x = frD x := by unfold fr; rw [hn]; rfl
    rw [Hfr] at hf ⊢
    clear Hfr
    unfold frNeg at hn
    generalize hfx : frD x = f at *
    clear hfx
    clear hx
    have hu := sqr_bd hf
    obtain ⟨z1, z2, u1, u2, r1, r2⟩ := sinFacts hf
    cases hb : below f <;> cases ho : over4 (red1 f)
    · have Hs : Hid (sinF f = sinP f) := Lib.hid (sinF_no hb)
      have q2 := red_no ho
      rw [q2] at z1 z2
      clear q2
      have q1 := red1_no hb
      rw [q1] at ho z1 z2
      clear q1
      unfold below at hb
      unfold over4 at ho
      clear hf
      go_enter Try.func168, Try.ntmps168
      go_wp2
      go_loop [7, 8] (fun p k => ∃ j : Nat, j ≤ 8 ∧ k = .int .i64 (8 - (j : Int)) ∧ p = .float .f64 (pol (sqr (ang f)) j)) (fun _ k => (intOf k).toNat)
      case atStart => exact ⟨0, by omega, rfl, rfl⟩
      case round =>
        obtain ⟨j, hj, rfl, rfl⟩ := hrel
        by_cases h8 : j = 8
        · subst h8
          go_wp2
          go_ret
          exact ⟨by rw [Hs.out]; rfl, rfl⟩
        · obtain ⟨⟨m1, m2⟩, ⟨d1, d2⟩, ⟨e1, e2⟩⟩ := pol_sure hu j (by omega)
          have : j = 0 ∨ j = 1 ∨ j = 2 ∨ j = 3 ∨ j = 4 ∨ j = 5 ∨ j = 6 ∨ j = 7 := by omega
          rcases this with rfl | rfl | rfl | rfl | rfl | rfl | rfl | rfl
          all_goals
            simp only [den_0, den_1, den_2, den_3, den_4, den_5, den_6, den_7] at d1 d2 e1 e2
            clear h8 hj
            go_wp2
            go_round
            case rel => exact ⟨_, Nat.succ_le_of_lt (by decide), rfl, rfl⟩
            case measure => simp [intOf]
    · have Hs : Hid (sinF f = sinP f) := Lib.hid (sinF_no hb)
      obtain ⟨o1, o2⟩ := red_sure hf ho
      have q1 := red1_no hb
      rw [q1] at ho o1 o2
      clear q1
      unfold below at hb
      unfold over4 at ho
      clear hf
      go_enter Try.func168, Try.ntmps168
      go_wp2
      go_loop [7, 8] (fun p k => ∃ j : Nat, j ≤ 8 ∧ k = .int .i64 (8 - (j : Int)) ∧ p = .float .f64 (pol (sqr (ang f)) j)) (fun _ k => (intOf k).toNat)
      case atStart => exact ⟨0, by omega, rfl, rfl⟩
      case round =>
        obtain ⟨j, hj, rfl, rfl⟩ := hrel
        by_cases h8 : j = 8
        · subst h8
          go_wp2
          go_ret
          exact ⟨by rw [Hs.out]; rfl, rfl⟩
        · obtain ⟨⟨m1, m2⟩, ⟨d1, d2⟩, ⟨e1, e2⟩⟩ := pol_sure hu j (by omega)
          have : j = 0 ∨ j = 1 ∨ j = 2 ∨ j = 3 ∨ j = 4 ∨ j = 5 ∨ j = 6 ∨ j = 7 := by omega
          rcases this with rfl | rfl | rfl | rfl | rfl | rfl | rfl | rfl
          all_goals
            simp only [den_0, den_1, den_2, den_3, den_4, den_5, den_6, den_7] at d1 d2 e1 e2
            clear h8 hj
            go_wp2
            go_round
            case rel => exact ⟨_, Nat.succ_le_of_lt (by decide), rfl, rfl⟩
            case measure => simp [intOf]
    · have Hs : Hid (sinF f = Op.negFloat .f64 (sinP f)) := Lib.hid (sinF_yes hb)
      obtain ⟨p1, p2⟩ := red1_sure hf hb
      have q2 := red_no ho
      rw [q2] at z1 z2
      clear q2
      unfold below at hb
      unfold over4 at ho
      clear hf
      go_enter Try.func168, Try.ntmps168
      go_wp2
      go_loop [7, 8] (fun p k => ∃ j : Nat, j ≤ 8 ∧ k = .int .i64 (8 - (j : Int)) ∧ p = .float .f64 (pol (sqr (ang f)) j)) (fun _ k => (intOf k).toNat)
      case atStart => exact ⟨0, by omega, rfl, rfl⟩
      case round =>
        obtain ⟨j, hj, rfl, rfl⟩ := hrel
        by_cases h8 : j = 8
        · subst h8
          go_wp2
          go_ret
          exact ⟨by rw [Hs.out]; rfl, rfl⟩
        · obtain ⟨⟨m1, m2⟩, ⟨d1, d2⟩, ⟨e1, e2⟩⟩ := pol_sure hu j (by omega)
          have : j = 0 ∨ j = 1 ∨ j = 2 ∨ j = 3 ∨ j = 4 ∨ j = 5 ∨ j = 6 ∨ j = 7 := by omega
          rcases this with rfl | rfl | rfl | rfl | rfl | rfl | rfl | rfl
          all_goals
            simp only [den_0, den_1, den_2, den_3, den_4, den_5, den_6, den_7] at d1 d2 e1 e2
            clear h8 hj
            go_wp2
            go_round
            case rel => exact ⟨_, Nat.succ_le_of_lt (by decide), rfl, rfl⟩
            case measure => simp [intOf]
    · have Hs : Hid (sinF f = Op.negFloat .f64 (sinP f)) := Lib.hid (sinF_yes hb)
      obtain ⟨p1, p2⟩ := red1_sure hf hb
      obtain ⟨o1, o2⟩ := red_sure hf ho
      unfold below at hb
      unfold over4 at ho
      clear hf
      go_enter Try.func168, Try.ntmps168
      go_wp2
      go_loop [7, 8] (fun p k => ∃ j : Nat, j ≤ 8 ∧ k = .int .i64 (8 - (j : Int)) ∧ p = .float .f64 (pol (sqr (ang f)) j)) (fun _ k => (intOf k).toNat)
      case atStart => exact ⟨0, by omega, rfl, rfl⟩
      case round =>
        obtain ⟨j, hj, rfl, rfl⟩ := hrel
        by_cases h8 : j = 8
        · subst h8
          go_wp2
          go_ret
          exact ⟨by rw [Hs.out]; rfl, rfl⟩
        · obtain ⟨⟨m1, m2⟩, ⟨d1, d2⟩, ⟨e1, e2⟩⟩ := pol_sure hu j (by omega)
          have : j = 0 ∨ j = 1 ∨ j = 2 ∨ j = 3 ∨ j = 4 ∨ j = 5 ∨ j = 6 ∨ j = 7 := by omega
          rcases this with rfl | rfl | rfl | rfl | rfl | rfl | rfl | rfl
          all_goals
            simp only [den_0, den_1, den_2, den_3, den_4, den_5, den_6, den_7] at d1 d2 e1 e2
            clear h8 hj
            go_wp2
            go_round
            case rel => exact ⟨_, Nat.succ_le_of_lt (by decide), rfl, rfl⟩
            case measure => simp [intOf]
  · have Hfr : fr x = fop .add .f64 (frD x) 4607182418800017408 := by unfold fr; rw [hn]; rfl
    rw [Hfr] at hf ⊢
    obtain ⟨s3, s4⟩ := bd_sure hf
    clear Hfr
    generalize fop .add .f64 (frD x) 4607182418800017408 = f at *
    unfold frNeg at hn
    clear hx
    have hu := sqr_bd hf
    obtain ⟨z1, z2, u1, u2, r1, r2⟩ := sinFacts hf
    cases hb : below f <;> cases ho : over4 (red1 f)
    · have Hs : Hid (sinF f = sinP f) := Lib.hid (sinF_no hb)
      have q2 := red_no ho
      rw [q2] at z1 z2
      clear q2
      have q1 := red1_no hb
      rw [q1] at ho z1 z2
      clear q1
      unfold below at hb
      unfold over4 at ho
      clear hf
      go_enter Try.func168, Try.ntmps168
      go_wp2
      go_loop [7, 8] (fun p k => ∃ j : Nat, j ≤ 8 ∧ k = .int .i64 (8 - (j : Int)) ∧ p = .float .f64 (pol (sqr (ang f)) j)) (fun _ k => (intOf k).toNat)
      case atStart => exact ⟨0, by omega, rfl, rfl⟩
      case round =>
        obtain ⟨j, hj, rfl, rfl⟩ := hrel
        by_cases h8 : j = 8
        · subst h8
          go_wp2
          go_ret
          exact ⟨by rw [Hs.out]; rfl, rfl⟩
        · obtain ⟨⟨m1, m2⟩, ⟨d1, d2⟩, ⟨e1, e2⟩⟩ := pol_sure hu j (by omega)
          have : j = 0 ∨ j = 1 ∨ j = 2 ∨ j = 3 ∨ j = 4 ∨ j = 5 ∨ j = 6 ∨ j = 7 := by omega
          rcases this with rfl | rfl | rfl | rfl | rfl | rfl | rfl | rfl
          all_goals
            simp only [den_0, den_1, den_2, den_3, den_4, den_5, den_6, den_7] at d1 d2 e1 e2
            clear h8 hj
            go_wp2
            go_round
            case rel => exact ⟨_, Nat.succ_le_of_lt (by decide), rfl, rfl⟩
            case measure => simp [intOf]
    · have Hs : Hid (sinF f = sinP f) := Lib.hid (sinF_no hb)
      obtain ⟨o1, o2⟩ := red_sure hf ho
      have q1 := red1_no hb
      rw [q1] at ho o1 o2
      clear q1
      unfold below at hb
      unfold over4 at ho
      clear hf
      go_enter Try.func168, Try.ntmps168
      go_wp2
      go_loop [7, 8] (fun p k => ∃ j : Nat, j ≤ 8 ∧ k = .int .i64 (8 - (j : Int)) ∧ p = .float .f64 (pol (sqr (ang f)) j)) (fun _ k => (intOf k).toNat)
      case atStart => exact ⟨0, by omega, rfl, rfl⟩
      case round =>
        obtain ⟨j, hj, rfl, rfl⟩ := hrel
        by_cases h8 : j = 8
        · subst h8
          go_wp2
          go_ret
          exact ⟨by rw [Hs.out]; rfl, rfl⟩
        · obtain ⟨⟨m1, m2⟩, ⟨d1, d2⟩, ⟨e1, e2⟩⟩ := pol_sure hu j (by omega)
          have : j = 0 ∨ j = 1 ∨ j = 2 ∨ j = 3 ∨ j = 4 ∨ j = 5 ∨ j = 6 ∨ j = 7 := by omega
          rcases this with rfl | rfl | rfl | rfl | rfl | rfl | rfl | rfl
          all_goals
            simp only [den_0, den_1, den_2, den_3, den_4, den_5, den_6, den_7] at d1 d2 e1 e2
            clear h8 hj
            go_wp2
            go_round
            case rel => exact ⟨_, Nat.succ_le_of_lt (by decide), rfl, rfl⟩
            case measure => simp [intOf]
    · have Hs : Hid (sinF f = Op.negFloat .f64 (sinP f)) := Lib.hid (sinF_yes hb)
      obtain ⟨p1, p2⟩ := red1_sure hf hb
      have q2 := red_no ho
      rw [q2] at z1 z2
      clear q2
      unfold below at hb
      unfold over4 at ho
      clear hf
      go_enter Try.func168, Try.ntmps168
      go_wp2
      go_loop [7, 8] (fun p k => ∃ j : Nat, j ≤ 8 ∧ k = .int .i64 (8 - (j : Int)) ∧ p = .float .f64 (pol (sqr (ang f)) j)) (fun _ k => (intOf k).toNat)
      case atStart => exact ⟨0, by omega, rfl, rfl⟩
      case round =>
        obtain ⟨j, hj, rfl, rfl⟩ := hrel
        by_cases h8 : j = 8
        · subst h8
          go_wp2
          go_ret
          exact ⟨by rw [Hs.out]; rfl, rfl⟩
        · obtain ⟨⟨m1, m2⟩, ⟨d1, d2⟩, ⟨e1, e2⟩⟩ := pol_sure hu j (by omega)
          have : j = 0 ∨ j = 1 ∨ j = 2 ∨ j = 3 ∨ j = 4 ∨ j = 5 ∨ j = 6 ∨ j = 7 := by omega
          rcases this with rfl | rfl | rfl | rfl | rfl | rfl | rfl | rfl
          all_goals
            simp only [den_0, den_1, den_2, den_3, den_4, den_5, den_6, den_7] at d1 d2 e1 e2
            clear h8 hj
            go_wp2
            go_round
            case rel => exact ⟨_, Nat.succ_le_of_lt (by decide), rfl, rfl⟩
            case measure => simp [intOf]
    · have Hs : Hid (sinF f = Op.negFloat .f64 (sinP f)) := Lib.hid (sinF_yes hb)
      obtain ⟨p1, p2⟩ := red1_sure hf hb
      obtain ⟨o1, o2⟩ := red_sure hf ho
      unfold below at hb
      unfold over4 at ho
      clear hf
      go_enter Try.func168, Try.ntmps168
      go_wp2
      go_loop [7, 8] (fun p k => ∃ j : Nat, j ≤ 8 ∧ k = .int .i64 (8 - (j : Int)) ∧ p = .float .f64 (pol (sqr (ang f)) j)) (fun _ k => (intOf k).toNat)
      case atStart => exact ⟨0, by omega, rfl, rfl⟩
      case round =>
        obtain ⟨j, hj, rfl, rfl⟩ := hrel
        by_cases h8 : j = 8
        · subst h8
          go_wp2
          go_ret
          exact ⟨by rw [Hs.out]; rfl, rfl⟩
        · obtain ⟨⟨m1, m2⟩, ⟨d1, d2⟩, ⟨e1, e2⟩⟩ := pol_sure hu j (by omega)
          have : j = 0 ∨ j = 1 ∨ j = 2 ∨ j = 3 ∨ j = 4 ∨ j = 5 ∨ j = 6 ∨ j = 7 := by omega
          rcases this with rfl | rfl | rfl | rfl | rfl | rfl | rfl | rfl
          all_goals
            simp only [den_0, den_1, den_2, den_3, den_4, den_5, den_6, den_7] at d1 d2 e1 e2
            clear h8 hj
            go_wp2
            go_round
            case rel => exact ⟨_, Nat.succ_le_of_lt (by decide), rfl, rfl⟩
            case measure => simp [intOf]
theorem i_SineTurns (b : Nat) (w : World) :
    Calls Try.prog 193 #[.float .f32 b] w fun e w' => ∃ r n, e = .returned (.float .f32 r) ∧ canon .f32 r = canon .f32 (sinT (canon .f32 b)) ∧ w' = w.drewN n := by
  cases hf : fin .f32 b
  · rw [sinT_nan hf]
    have HI := Lib.hid hf; clear hf
    go_enter Try.func193, Try.ntmps193
    go_wp2_with fail
    refine (i_IsFinite b _).mono ?_
    rw [HI.out]
    rintro e w' ⟨n, rfl, rfl⟩
    go_wp2_with fail
    refine (m_NaN _).mono ?_
    rintro e w' ⟨rfl, rfl⟩
    go_wp2
    go_ret
    exact ⟨_, _, rfl, by rw [canon_of_nan (isn_narrowV _ (by decide +kernel)), canon_of_nan (isn_qnan _)], rfl⟩
  · have hn := not_nan_of_fin hf
    obtain ⟨w1, w2⟩ := wide_sure hn
    have hlt := wide_lt b
    have HF := Lib.hid hf
    cases hfar : far (wide b)
    · rw [sinT_near hf hfar]
      have hx := sin_near hf hfar
      have hs := sinF_bd (fr_bd hx)
      obtain ⟨n1, n2⟩ := narrow_bd_sure hs (by decide) (by decide)
      unfold far at hfar
      clear hf hn hs
      generalize wide b = x at *
      go_enter Try.func193, Try.ntmps193
      go_wp2_with fail
      refine (i_IsFinite b _).mono ?_
      rw [HF.out]
      rintro e w' ⟨n, rfl, rfl⟩
      go_wp2_with fail
      refine (m_Abs _ _ hlt).mono ?_
      rintro e w' ⟨rfl, rfl⟩
      go_wp2_with fail
      refine (i_sineOf _ _ hx).mono ?_
      rintro e w' ⟨rfl, rfl⟩
      go_wp2_with fail
      refine (i_NarrowNumber _ _).mono ?_
      rintro e w' ⟨rfl, rfl⟩
      go_wp2
      go_ret
      exact ⟨_, _, rfl, rfl, rfl⟩
    · rw [sinT_far hf hfar]
      unfold far at hfar
      clear hf hn
      generalize wide b = x at *
      go_enter Try.func193, Try.ntmps193
      go_wp2_with fail
      refine (i_IsFinite b _).mono ?_
      rw [HF.out]
      rintro e w' ⟨n, rfl, rfl⟩
      go_wp2_with fail
      refine (m_Abs _ _ hlt).mono ?_
      rintro e w' ⟨rfl, rfl⟩
      go_wp2
      go_ret
      exact ⟨_, _, rfl, rfl, rfl⟩
theorem s_l01Sine (b : Nat) (w : World) :
    Calls Try.prog 196 #[.float .f32 b] w fun e w' => ∃ r n, e = .returned (.float .f32 r) ∧ canon .f32 r = canon .f32 (sinT (canon .f32 b)) ∧ w' = w.drewN n := by
  cases hf : fin .f32 b
  · rw [sinT_nan hf]
    have hw : ∀ w, fin .f64 (wideV b w) = false := fun w => by rw [fin_wideV, hf]
    have HW := Lib.hid hw; clear hw hf
    go_enter Try.func196, Try.ntmps196
    go_wp2_with fail
    refine (s_l01SineWide_nan _ _ (HW.out _)).mono ?_
    rintro e w' ⟨n, rfl, rfl⟩
    go_wp2_with fail
    refine (s_l01Narrow _ _).mono ?_
    rintro e w' ⟨rfl, rfl⟩
    go_wp2
    go_ret
    exact ⟨_, _, rfl, by rw [canon_of_nan (isn_narrowV _ (by decide +kernel)), canon_of_nan (isn_qnan _)], rfl⟩
  · have hn := not_nan_of_fin hf
    obtain ⟨w1, w2⟩ := wide_sure hn
    cases hfar : far (wide b)
    · rw [sinT_near hf hfar]
      have hx := sin_near hf hfar
      have hs := sinF_bd (fr_bd hx)
      obtain ⟨n1, n2⟩ := narrow_bd_sure hs (by decide) (by decide)
      have HF := Lib.hid hfar
      clear hf hn hs hfar
      generalize wide b = x at *
      go_enter Try.func196, Try.ntmps196
      go_wp2_with fail
      refine (s_l01SineWide _ _ hx HF.out).mono ?_
      rintro e w' ⟨rfl, rfl⟩
      go_wp2_with fail
      refine (s_l01Narrow _ _).mono ?_
      rintro e w' ⟨rfl, rfl⟩
      go_wp2
      go_ret
      exact ⟨_, _, rfl, rfl, rfl⟩
    · rw [sinT_far hf hfar]
      have hw : fin .f64 (wide b) = true := by rw [fin_wide, hf]
      have n1 : ∀ w, narrowV 0 w = 0 := (narrow_sure (b := 0) (by decide +kernel) (by decide +kernel)).1
      have n2 : narrowN 0 = 0 := (narrow_sure (b := 0) (by decide +kernel) (by decide +kernel)).2
      have HF := Lib.hid hfar
      have HW := Lib.hid hw
      clear hf hn hw hfar
      generalize wide b = x at *
      go_enter Try.func196, Try.ntmps196
      go_wp2_with fail
      refine (s_l01SineWide_far _ _ HW.out HF.out).mono ?_
      rintro e w' ⟨rfl, rfl⟩
      go_wp2_with fail
      refine (s_l01Narrow _ _).mono ?_
      rintro e w' ⟨rfl, rfl⟩
      go_wp2
      go_ret
      exact ⟨_, _, rfl, rfl, rfl⟩
end Go.Proofs.Ytpmjikchlofebaa

/- TenthsOf: both sides. No statement is proved here. -/
import Derived.Test.YtngpholnljehjaaTenM
import Derived.Test.YtngpholnljehjaaBits
import Derived.LoopTactic
import Derived.Deep.DeepCutAuto
namespace Go.Proofs.Ytngpholnljehjaa
open Go Go.RowKit
theorem tno_0 : (25 - 2 * ((0 : Nat) : Int)) = 25 := by decide
theorem tno_1 : (25 - 2 * ((1 : Nat) : Int)) = 23 := by decide
theorem tno_2 : (25 - 2 * ((2 : Nat) : Int)) = 21 := by decide
theorem tno_3 : (25 - 2 * ((3 : Nat) : Int)) = 19 := by decide
theorem tno_4 : (25 - 2 * ((4 : Nat) : Int)) = 17 := by decide
theorem tno_5 : (25 - 2 * ((5 : Nat) : Int)) = 15 := by decide
theorem tno_6 : (25 - 2 * ((6 : Nat) : Int)) = 13 := by decide
theorem tno_7 : (25 - 2 * ((7 : Nat) : Int)) = 11 := by decide
theorem tno_8 : (25 - 2 * ((8 : Nat) : Int)) = 9 := by decide
theorem tno_9 : (25 - 2 * ((9 : Nat) : Int)) = 7 := by decide
theorem tno_10 : (25 - 2 * ((10 : Nat) : Int)) = 5 := by decide
theorem tno_11 : (25 - 2 * ((11 : Nat) : Int)) = 3 := by decide
theorem tno_12 : (25 - 2 * ((12 : Nat) : Int)) = 1 := by decide
set_option maxHeartbeats 8000000 in
set_option maxRecDepth 20000 in
theorem i_logOf (x0 M : Nat) (E : Int) (w : World) (h : Dn (dnT 300 x0 0) 300 x0 0 M E) :
    Calls Try.prog 9 #[.float .f64 x0] w fun e w' => e = .returned (.float .f64 (lgW x0)) ∧ w' = w := by
  obtain ⟨D, hD⟩ : ∃ D, D = dnT 300 x0 0 := ⟨_, rfl⟩
  rw [← hD] at h
  have HW : Hid (lgW x0 = lgR (upT 300 D.1 D.2).1 (upT 300 D.1 D.2).2) := Lib.hid (by rw [hD]; rfl)
  obtain ⟨UU, hUU⟩ : ∃ U, U = upT 300 D.1 D.2 := ⟨_, rfl⟩
  rw [← hUU] at HW
  have HUU := Lib.hid hUU
  have H0 := Lib.hid h
  clear hD hUU
  clear h
  go_enter Try.func9, Try.ntmps9
  go_wp2
  go_loop [3, 4] (fun x e => ∃ (n y : Nat) (k : Int) (M : Nat) (E : Int), Hid (Dn D n y k M E) ∧ x = .float .f64 y ∧ e = .int .i64 k) (fun _ e => (300 - intOf e).toNat)
  case atStart => exact ⟨300, x0, 0, M, E, H0, rfl, rfl⟩
  case round =>
    obtain ⟨n, y, k, M1, E1, HD, rfl, rfl⟩ := hrel
    cases hg : tG y
    · have HU : Hid (Up UU 300 y k M1 E1) := Lib.hid (by rw [HUU.out]; exact HD.out.up hg)
      unfold tG at hg
      clear HD
      go_wp2
      clear hg
      go_loop [3, 4] (fun x e => ∃ (n y : Nat) (k : Int) (M : Nat) (E : Int), Hid (Up UU n y k M E) ∧ x = .float .f64 y ∧ e = .int .i64 k) (fun _ e => (intOf e + 301).toNat)
      case atStart => exact ⟨300, y, k, M1, E1, HU, rfl, rfl⟩
      case round =>
        obtain ⟨n2, y2, k2, M2, E2, HV, rfl, rfl⟩ := hrel
        clear HU
        have c1 := HV.out.c1
        have c2 := HV.out.c2
        cases hl : tL y2
        · have he : UU = (y2, k2) := by rw [← HV.out.is, upT_no hl]
          obtain ⟨d1, d2, a1, a2, q1, q2, m1, m2, hu, t1, t2, b1, b2, e1, e2, r1, r2, bd⟩ := lgF_of HV.out.nrm (mid_of HV.out.nrm HV.out.lt hl) (show -300 ≤ k2 ∧ k2 ≤ 300 by omega)
          have HR : Hid (lgR y2 k2 = lgW x0) := Lib.hid (by rw [HW.out, he])
          have HUB := Lib.hid hu
          clear he bd hu HV HW HUU
          unfold tL at hl
          generalize lgR y2 k2 = R at *
          generalize lgB y2 = B at *
          generalize lgA y2 = A at *
          generalize lgE k2 = F at *
          generalize lgU y2 = U at *
          generalize lgS y2 = S at *
          go_wp2
          clear hl d1 d2 a1 a2 q1 q2 m1 m2
          go_loop [7, 8] (fun q k => ∃ j : Nat, j ≤ 13 ∧ k = .int .i64 (25 - 2 * (j : Int)) ∧ q = .float .f64 (lgq U j)) (fun _ k => (intOf k + 1).toNat)
          case atStart => exact ⟨0, by omega, rfl, rfl⟩
          case round =>
            obtain ⟨j, hj, rfl, rfl⟩ := hrel
            by_cases h13 : j = 13
            · subst h13
              go_wp2
              go_ret
              exact ⟨by rw [HR.out]; rfl, rfl⟩
            · obtain ⟨⟨p1, p2⟩, ⟨o1, o2⟩, ⟨n1, n2⟩⟩ := lgq_sure HUB.out j (by omega)
              have : j = 0 ∨ j = 1 ∨ j = 2 ∨ j = 3 ∨ j = 4 ∨ j = 5 ∨ j = 6 ∨ j = 7 ∨ j = 8 ∨ j = 9 ∨ j = 10 ∨ j = 11 ∨ j = 12 := by omega
              clear t1 t2 b1 b2 e1 e2 r1 r2
              rcases this with rfl | rfl | rfl | rfl | rfl | rfl | rfl | rfl | rfl | rfl | rfl | rfl | rfl
              all_goals
                simp only [tno_0, tno_1, tno_2, tno_3, tno_4, tno_5, tno_6, tno_7, tno_8, tno_9, tno_10, tno_11, tno_12] at p1 p2 n1 n2
                clear h13 hj
                go_wp2
                go_round
                case rel => exact ⟨_, Nat.succ_le_of_lt (by decide), rfl, rfl⟩
                case measure => simp [intOf]
        · obtain ⟨k', rfl, hs, q1, q2⟩ := HV.out.step hl
          have HS := Lib.hid hs
          clear hs HV HW
          unfold tL at hl
          have c3 : -300 ≤ k2 - 1 := by omega
          clear c1
          go_wp2
          go_round
          case rel => exact ⟨k', _, _, M2, E2 + 1, HS, rfl, by go_num⟩
          case measure => simp [intOf]; omega
    · have c1 := HD.out.c1
      have c2 := HD.out.c2
      obtain ⟨k', rfl, hs, q1, q2⟩ := HD.out.step hg
      have HS := Lib.hid hs
      clear hs HD HW
      unfold tG at hg
      have c3 : k + 1 ≤ 300 := by omega
      clear c2
      go_wp2
      go_round
      case rel => exact ⟨k', _, _, M1, E1 - 1, HS, rfl, by go_num⟩
      case measure => simp [intOf]; omega
theorem m_IsInf1 (b : Nat) (w : World) (h : FloatKind.f64.format.order b 9218868437227405311 = some .lt) :
    Calls Try.prog 17 #[.float .f64 b, .int .i64 1] w fun e w' => e = .returned (.bool false) ∧ w' = w := by
  go_enter Try.func17, Try.ntmps17
  go_wp2
  go_ret
  exact ⟨by simp, rfl⟩
set_option maxHeartbeats 8000000 in
set_option maxRecDepth 20000 in
theorem s_l01LogWide (x0 M : Nat) (E : Int) (w : World) (h : Dn (dnT 300 x0 0) 300 x0 0 M E) :
    Calls Try.prog 11 #[.float .f64 x0] w fun e w' => e = .returned (.float .f64 (lgW x0)) ∧ w' = w := by
  obtain ⟨D, hD⟩ : ∃ D, D = dnT 300 x0 0 := ⟨_, rfl⟩
  rw [← hD] at h
  have HW : Hid (lgW x0 = lgR (upT 300 D.1 D.2).1 (upT 300 D.1 D.2).2) := Lib.hid (by rw [hD]; rfl)
  obtain ⟨UU, hUU⟩ : ∃ U, U = upT 300 D.1 D.2 := ⟨_, rfl⟩
  rw [← hUU] at HW
  have HUU := Lib.hid hUU
  have H0 := Lib.hid h
  clear hD hUU
  have o1 := h.nrm.self
  have o2 := h.nrm.pos
  have HO3 := Lib.hid (h.nrm.top h.e2)
  clear h
  go_enter Try.func11, Try.ntmps11
  go_wp2_with fail
  refine (m_IsInf1 _ _ HO3.out).mono ?_
  rintro e w' ⟨rfl, rfl⟩
  go_wp2
  clear o1 o2 HO3
  go_loop [0, 3] (fun x e => ∃ (n y : Nat) (k : Int) (M : Nat) (E : Int), Hid (Dn D n y k M E) ∧ x = .float .f64 y ∧ e = .int .i64 k) (fun _ e => (300 - intOf e).toNat)
  case atStart => exact ⟨300, x0, 0, M, E, H0, rfl, rfl⟩
  case round =>
    obtain ⟨n, y, k, M1, E1, HD, rfl, rfl⟩ := hrel
    cases hg : tG y
    · have HU : Hid (Up UU 300 y k M1 E1) := Lib.hid (by rw [HUU.out]; exact HD.out.up hg)
      unfold tG at hg
      clear HD
      go_wp2
      clear hg
      go_loop [0, 3] (fun x e => ∃ (n y : Nat) (k : Int) (M : Nat) (E : Int), Hid (Up UU n y k M E) ∧ x = .float .f64 y ∧ e = .int .i64 k) (fun _ e => (intOf e + 301).toNat)
      case atStart => exact ⟨300, y, k, M1, E1, HU, rfl, rfl⟩
      case round =>
        obtain ⟨n2, y2, k2, M2, E2, HV, rfl, rfl⟩ := hrel
        clear HU
        have c1 := HV.out.c1
        have c2 := HV.out.c2
        cases hl : tL y2
        · have he : UU = (y2, k2) := by rw [← HV.out.is, upT_no hl]
          obtain ⟨d1, d2, a1, a2, q1, q2, m1, m2, hu, t1, t2, b1, b2, e1, e2, r1, r2, bd⟩ := lgF_of HV.out.nrm (mid_of HV.out.nrm HV.out.lt hl) (show -300 ≤ k2 ∧ k2 ≤ 300 by omega)
          have HR : Hid (lgR y2 k2 = lgW x0) := Lib.hid (by rw [HW.out, he])
          have HUB := Lib.hid hu
          clear he bd hu HV HW HUU
          unfold tL at hl
          generalize lgR y2 k2 = R at *
          generalize lgB y2 = B at *
          generalize lgA y2 = A at *
          generalize lgE k2 = F at *
          generalize lgU y2 = U at *
          generalize lgS y2 = S at *
          go_wp2
          clear hl d1 d2 a1 a2 q1 q2 m1 m2
          go_loop [6, 7] (fun q k => ∃ j : Nat, j ≤ 13 ∧ k = .int .i64 (25 - 2 * (j : Int)) ∧ q = .float .f64 (lgq U j)) (fun _ k => (intOf k + 1).toNat)
          case atStart => exact ⟨0, by omega, rfl, rfl⟩
          case round =>
            obtain ⟨j, hj, rfl, rfl⟩ := hrel
            by_cases h13 : j = 13
            · subst h13
              go_wp2
              go_ret
              exact ⟨by rw [HR.out]; rfl, rfl⟩
            · obtain ⟨⟨p1, p2⟩, ⟨o1, o2⟩, ⟨n1, n2⟩⟩ := lgq_sure HUB.out j (by omega)
              have : j = 0 ∨ j = 1 ∨ j = 2 ∨ j = 3 ∨ j = 4 ∨ j = 5 ∨ j = 6 ∨ j = 7 ∨ j = 8 ∨ j = 9 ∨ j = 10 ∨ j = 11 ∨ j = 12 := by omega
              clear t1 t2 b1 b2 e1 e2 r1 r2
              rcases this with rfl | rfl | rfl | rfl | rfl | rfl | rfl | rfl | rfl | rfl | rfl | rfl | rfl
              all_goals
                simp only [tno_0, tno_1, tno_2, tno_3, tno_4, tno_5, tno_6, tno_7, tno_8, tno_9, tno_10, tno_11, tno_12] at p1 p2 n1 n2
                clear h13 hj
                go_wp2
                go_round
                case rel => exact ⟨_, Nat.succ_le_of_lt (by decide), rfl, rfl⟩
                case measure => simp [intOf]
        · obtain ⟨k', rfl, hs, q1, q2⟩ := HV.out.step hl
          have HS := Lib.hid hs
          clear hs HV HW
          unfold tL at hl
          have c3 : -300 ≤ k2 - 1 := by omega
          clear c1
          go_wp2
          go_round
          case rel => exact ⟨k', _, _, M2, E2 + 1, HS, rfl, by go_num⟩
          case measure => simp [intOf]; omega
    · have c1 := HD.out.c1
      have c2 := HD.out.c2
      obtain ⟨k', rfl, hs, q1, q2⟩ := HD.out.step hg
      have HS := Lib.hid hs
      clear hs HD HW
      unfold tG at hg
      have c3 : k + 1 ≤ 300 := by omega
      clear c2
      go_wp2
      go_round
      case rel => exact ⟨k', _, _, M1, E1 - 1, HS, rfl, by go_num⟩
      case measure => simp [intOf]; omega
theorem ext_floorT (b : Nat) (h : fin .f64 b = true) (w : World) : (callFunc 13 #[.float .f64 b]).run Try.prog w = .ok (.value (.float .f64 (floorT b))) w := by
  rw [run_callFunc_extern Try.func13 (by kernel_rfl) (by kernel_rfl) (by kernel_rfl) (e := Extern.MathFloor.toIntegral "math.archFloor" .down) (by kernel_rfl)]
  have key : Extern.MathFloor.toIntegral "math.archFloor" .down #[.float .f64 b] = pure (.float .f64 (floorT b)) := by
    unfold fin at h
    unfold floorT
    delta Extern.MathFloor.toIntegral
    conv => lhs; whnf
    generalize FloatKind.f64.decode b = d at *
    cases d with
    | nan s f => cases h
    | infinity s => cases h
    | number s m e => rfl
  rw [key]
  rfl
theorem m_FloorT (b : Nat) (h : fin .f64 b = true) (w : World) :
    Calls Try.prog 10 #[.float .f64 b] w fun e w' => e = .returned (.float .f64 (floorT b)) ∧ w' = w := by
  have hx := ext_floorT b h
  clear h
  go_enter Try.func10, Try.ntmps10
  go_wp2
  go_ret
  exact ⟨rfl, rfl⟩
structure TenF (l : Nat) : Prop where
  m1 : ∀ w, fopV .mul .f64 l 4631308968768463603 w = fop .mul .f64 l 4631308968768463603
  m2 : fopN .mul .f64 l 4631308968768463603 = 0
  a1 : ∀ w, fopV .add .f64 (fop .mul .f64 l 4631308968768463603) 4602678819172646912 w = tenX l
  a2 : fopN .add .f64 (fop .mul .f64 l 4631308968768463603) 4602678819172646912 = 0
  f : fin .f64 (tenX l) = true
  i : ∀ w, (convert 27 2 (.float .f64 (floorT (tenX l)))).run Try.prog w = .ok (.int .i64 (toI (floorT (tenX l)))) w
theorem tenF_of {l : Nat} (h : Bd .f64 15 l) : TenF l := by
  have b1 := bd_mul (a := 15) (c := 6) fmt64 h bd_c43 (by decide) (by decide)
  have b2 : Bd .f64 22 (tenX l) := bd_add (a := 21) fmt64 b1 (bd_mono bd_half (by decide)) (by decide) (by decide)
  have b3 := floor_bdT (bd_mono b2 (by decide))
  exact ⟨(bd_sure b1).1, (bd_sure b1).2, (bd_sure b2).1, (bd_sure b2).2, bd_fin b2, fun w => run_convert_float_int w _ _ .f64 .i64 _ _ (by kernel_rfl) (by kernel_rfl) (toI_val (bd_mono b3 (by decide)))⟩
theorem lgW_bd {x M : Nat} {E : Int} (h : Dn (dnT 300 x 0) 300 x 0 M E) : Bd .f64 15 (lgW x) := by
  have key : ∀ (n y : Nat) (k : Int) (M : Nat) (E : Int), Dn (dnT 300 x 0) n y k M E → ∃ y' k' M' E', Up (upT 300 (dnT 300 x 0).1 (dnT 300 x 0).2) 300 y' k' M' E' := by
    intro n
    induction n with
    | zero =>
      intro y k M E h
      cases hg : tG y
      · exact ⟨_, _, _, _, h.up hg⟩
      · obtain ⟨k', e, -⟩ := h.step hg; cases e
    | succ n ih =>
      intro y k M E h
      cases hg : tG y
      · exact ⟨_, _, _, _, h.up hg⟩
      · obtain ⟨k', e, h', -⟩ := h.step hg
        cases e
        exact ih _ _ _ _ h'
  have key2 : ∀ (U : Nat × Int) (n y : Nat) (k : Int) (M : Nat) (E : Int), Up U n y k M E → Bd .f64 15 (lgR U.1 U.2) := by
    intro U n
    induction n with
    | zero =>
      intro y k M E h
      cases hg : tL y
      · have := h.is
        rw [upT_no hg] at this
        rw [← this]
        exact (lgF_of h.nrm (mid_of h.nrm h.lt hg) ⟨by have := h.c1; omega, h.c2⟩).bd
      · obtain ⟨k', e, -⟩ := h.step hg; cases e
    | succ n ih =>
      intro y k M E h
      cases hg : tL y
      · have := h.is
        rw [upT_no hg] at this
        rw [← this]
        exact (lgF_of h.nrm (mid_of h.nrm h.lt hg) ⟨by have := h.c1; omega, h.c2⟩).bd
      · obtain ⟨k', e, h', -⟩ := h.step hg
        cases e
        exact ih _ _ _ _ h'
  obtain ⟨y', k', M', E', hU⟩ := key _ _ _ _ _ h
  exact key2 _ _ _ _ _ _ hU
set_option maxHeartbeats 4000000 in
theorem i_TenthsOf (p : Nat) (w : World) :
    Calls Try.prog 5 #[.float .f32 p] w fun e w' => e = .returned (.tuple #[.int .i64 (tenI p), .bool (tenOk p)]) ∧ ∃ n, w' = w.drewN n := by
  cases hf : fin .f32 p
  · have HO : Hid (tenOk p = false) := Lib.hid (by unfold tenOk; rw [hf]; rfl)
    have HFF := Lib.hid hf
    clear hf
    go_enter Try.func5, Try.ntmps5
    go_wp2_with fail
    refine (i_IsFinite p _).mono ?_
    rw [HFF.out]
    rintro e w' ⟨n, rfl, rfl⟩
    go_wp2
    refine bodyPost_ret (results_tmp2 rfl _ _ _) rfl ?_
    exact ⟨by unfold tenI; rw [HO.out]; rfl, _, rfl⟩
  cases hl : (FloatKind.f32.format.order p 0 == some .lt || FloatKind.f32.format.order p 0 == some .eq)
  · have HO : Hid (tenOk p = true) := Lib.hid (by unfold tenOk; rw [hf, hl]; rfl)
    obtain ⟨m, e, hd, h0⟩ := ten_pos hf hl
    obtain ⟨M, E, hD⟩ := dn_start hd h0
    have HD := Lib.hid hD
    have HFF := Lib.hid hf
    have HN := Lib.hid (not_nan_of_fin hf)
    obtain ⟨m1, m2, a1, a2, f, i⟩ := tenF_of (lgW_bd hD)
    have HF := Lib.hid f
    obtain ⟨v1, v2⟩ := wide_sure (not_nan_of_fin hf)
    clear hf hd h0 f hD
    go_enter Try.func5, Try.ntmps5
    go_wp2_with fail
    refine (i_IsFinite p _).mono ?_
    rw [HFF.out]
    rintro e w' ⟨n, rfl, rfl⟩
    go_wp2_with fail
    refine (i_logOf _ M E _ HD.out).mono ?_
    rintro e w' ⟨rfl, rfl⟩
    go_wp2_with fail
    refine (m_FloorT _ HF.out _).mono ?_
    rintro e w' ⟨rfl, rfl⟩
    go_wp2
    refine bodyPost_ret (results_tmp2 rfl _ _ _) rfl ?_
    exact ⟨by unfold tenI; rw [HO.out]; rfl, _, rfl⟩
  · have HO : Hid (tenOk p = false) := Lib.hid (by unfold tenOk; rw [hl]; simp)
    have HFF := Lib.hid hf
    clear hf
    go_enter Try.func5, Try.ntmps5
    go_wp2_with fail
    refine (i_IsFinite p _).mono ?_
    rw [HFF.out]
    rintro e w' ⟨n, rfl, rfl⟩
    go_wp2
    refine bodyPost_ret (results_tmp2 rfl _ _ _) rfl ?_
    exact ⟨by unfold tenI; rw [HO.out]; rfl, _, rfl⟩
set_option maxHeartbeats 4000000 in
theorem s_l01Tenths (p M : Nat) (E : Int) (w : World) (hn : isn .f32 p = false) (h : Dn (dnT 300 (wide p) 0) 300 (wide p) 0 M E) :
    Calls Try.prog 7 #[.float .f32 p] w fun e w' => e = .returned (.int .i64 (toI (floorT (tenX (lgW (wide p)))))) ∧ w' = w := by
  obtain ⟨m1, m2, a1, a2, f, i⟩ := tenF_of (lgW_bd h)
  have HF := Lib.hid f
  have HD := Lib.hid h
  obtain ⟨v1, v2⟩ := wide_sure hn
  clear f h hn
  go_enter Try.func7, Try.ntmps7
  go_wp2_with fail
  refine (s_l01LogWide _ M E _ HD.out).mono ?_
  rintro e w' ⟨rfl, rfl⟩
  go_wp2_with fail
  refine (m_FloorT _ HF.out _).mono ?_
  rintro e w' ⟨rfl, rfl⟩
  go_wp2
  go_ret
  exact ⟨rfl, rfl⟩
set_option maxHeartbeats 4000000 in
theorem s_TenthsOf (p : Nat) (w : World) :
    Calls Try.prog 4 #[.float .f32 p] w fun e w' => e = .returned (.tuple #[.int .i64 (tenI p), .bool (tenOk p)]) ∧ ∃ n, w' = w.drewN n := by
  cases hf : fin .f32 p
  · have HO : Hid (tenOk p = false) := Lib.hid (by unfold tenOk; rw [hf]; rfl)
    have HFF := Lib.hid hf
    clear hf
    go_enter Try.func4, Try.ntmps4
    go_wp2_with fail
    refine (s_l01Finite p _).mono ?_
    rw [HFF.out]
    rintro e w' ⟨n, rfl, rfl⟩
    go_wp2
    refine bodyPost_ret (results_tmp2 rfl _ _ _) rfl ?_
    exact ⟨by unfold tenI; rw [HO.out]; rfl, _, rfl⟩
  cases hl : (FloatKind.f32.format.order p 0 == some .lt || FloatKind.f32.format.order p 0 == some .eq)
  · have HO : Hid (tenOk p = true) := Lib.hid (by unfold tenOk; rw [hf, hl]; rfl)
    obtain ⟨m, e, hd, h0⟩ := ten_pos hf hl
    obtain ⟨M, E, hD⟩ := dn_start hd h0
    have HD := Lib.hid hD
    have HFF := Lib.hid hf
    have HN := Lib.hid (not_nan_of_fin hf)
    clear hf hd h0 hD
    go_enter Try.func4, Try.ntmps4
    go_wp2_with fail
    refine (s_l01Finite p _).mono ?_
    rw [HFF.out]
    rintro e w' ⟨n, rfl, rfl⟩
    go_wp2_with fail
    refine (s_l01Tenths p M E _ HN.out HD.out).mono ?_
    rintro e w' ⟨rfl, rfl⟩
    go_wp2
    refine bodyPost_ret (results_tmp2 rfl _ _ _) rfl ?_
    exact ⟨by unfold tenI; rw [HO.out]; rfl, _, rfl⟩
  · have HO : Hid (tenOk p = false) := Lib.hid (by unfold tenOk; rw [hl]; simp)
    have HFF := Lib.hid hf
    clear hf
    go_enter Try.func4, Try.ntmps4
    go_wp2_with fail
    refine (s_l01Finite p _).mono ?_
    rw [HFF.out]
    rintro e w' ⟨n, rfl, rfl⟩
    go_wp2
    refine bodyPost_ret (results_tmp2 rfl _ _ _) rfl ?_
    exact ⟨by unfold tenI; rw [HO.out]; rfl, _, rfl⟩
set_option maxHeartbeats 4000000 in
theorem law_FnExactTenthsOf (p : Nat) (w : World) (_hb0 : p < words .f32) :
    Calls Try.prog 3 #[.float .f32 p] w fun e w' => e = .returned (.bool true) ∧ Grown w w' := by
  go_enter Try.func3, Try.ntmps3
  go_wp2_with fail
  refine (s_TenthsOf p _).mono ?_
  rintro e w' ⟨rfl, n, rfl⟩
  go_wp2_with fail
  refine (i_TenthsOf p _).mono ?_
  rintro e w' ⟨rfl, n2, rfl⟩
  go_wp2
  go_ret
  exact ⟨rfl, by first | exact grown_drewN _ _ | (rw [World.drewN_drewN]; exact grown_drewN _ _)⟩
end Go.Proofs.Ytngpholnljehjaa

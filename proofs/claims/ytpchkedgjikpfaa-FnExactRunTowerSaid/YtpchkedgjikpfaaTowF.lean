/- Towers: how fast they swing, their steps and their energy: both sides. No statement is proved here. -/
import Derived.Test.YtpchkedgjikpfaaTow
namespace Go.Proofs.Ytpchkedgjikpfaa
open Go Go.RowKit
set_option maxHeartbeats 4000000 in
theorem i_TowerRate (m d s : Nat) (w : World) :
    Calls Try.prog 19 #[.agg #[.float .f32 m, .float .f32 d, .float .f32 s]] w fun e w' => ∃ r, e = .returned (.tuple #[.float .f32 r, .bool (twrO m d s)]) ∧ canon .f32 r = twrR m d s ∧ Below w.heap.size w w' := by
  have HB : ∀ o1, Hid (Below w.heap.size w (w.alloc o1)) := fun _ => Lib.hid ((Below.refl _ _).alloc (Nat.le_refl _) _)
  have K0 : ∀ t, Hid (BlkL (w.alloc (.cells #[.float .f32 m, .float .f32 d, .float .f32 s] t)) w.heap.size [.float .f32 m, .float .f32 d, .float .f32 s]) := fun _ => Lib.hid (blkL_at w #[.float .f32 m, .float .f32 d, .float .f32 s] _ rfl)
  have k0 := fun t => ((K0 t).out.2 0 _ rfl).1
  have k1 := fun t => ((K0 t).out.2 1 _ rfl).1
  have k2 := fun t => ((K0 t).out.2 2 _ rfl).1
  go_enter Try.func19, Try.ntmps19
  go_wp2_with fail
  refine (i_ValidTower m d s _).mono ?_
  rintro e w1 ⟨rfl, b1⟩
  have B1 : Hid (Below w.heap.size w w1) := Lib.hid (below_of (HB _).out (HB _).out.size b1)
  have K1 : Hid (BlkL w1 w.heap.size [.float .f32 m, .float .f32 d, .float .f32 s]) := Lib.hid ((K0 _).out.below b1)
  clear b1 k0 k1 k2
  obtain ⟨k0, k1, k2⟩ := K1.out.three
  cases v : towV m d s
  · go_wp2
    go_ret2
    exact ⟨_, by unfold twrO; rw [v]; rfl, by unfold twrR; rw [v]; exact canon_zero, B1.out⟩
  · have V := Lib.hid v; clear v
    go_wp2_with fail
    refine (i_RootNumber _ _).mono ?_
    rintro e w' ⟨r, n, rfl, hr, rfl⟩
    have hq : ∀ W : World, canon .f32 (fopV .quo .f32 r 1086918619 W) = twrV m s := fun W => by unfold twrV; exact canonF (hr.trans (congrArg (fun z => canon .f32 (rootF z)) (canonF rfl rfl))) rfl
    have HQ := Lib.hid hq; clear hr hq
    go_wp2_with fail
    refine (i_onlyFiniteC _ (twrV m s) _ (HQ.out _)).mono ?_
    rintro e w' ⟨r', n3, rfl, hr', rfl⟩
    have HR := Lib.hid hr'; clear hr'
    go_wp2
    go_ret2
    exact ⟨_, by unfold twrO; rw [V.out]; rfl, by rw [HR.out]; unfold twrR; rw [V.out]; rfl, by repeat (first | exact B1.out | refine below_draws ?_ _)⟩
set_option maxHeartbeats 8000000 in
set_option maxRecDepth 100000 in
theorem s_l07Rate (m d s B : Nat) (w : World) (hk : BlkL w B [.float .f32 m, .float .f32 d, .float .f32 s]) :
    Calls Try.prog 60 #[.pointer (some ⟨B, 0, none⟩)] w fun e w' => ∃ r n, e = .returned (.float .f32 r) ∧ canon .f32 r = twrV m s ∧ w' = w.drewN n := by
  obtain ⟨k0, k1, k2⟩ := hk.three
  clear hk
  have hdd : ∀ nn j, ∃ mm, (w.drewN nn).drewN j = w.drewN mm := fun nn j => ⟨nn + j, World.drewN_drewN ..⟩
  go_enter Try.func60, Try.ntmps60
  go_wp2_with fail
  refine wp_region_inv3 (fun iq v => match iq with
    | 0 => v = .pointer (some ⟨B, 0, none⟩)
    | 1 => v = .pointer (some ⟨B, 0, none⟩)
    | 2 => v = .pointer (some ⟨B, 2, none⟩)
    | 3 => v = .float .f32 s
    | 4 => v = .pointer (some ⟨B, 0, none⟩)
    | 5 => v = .pointer (some ⟨B, 0, none⟩)
    | 6 => v = .pointer (some ⟨B, 0, none⟩)
    | 7 => v = .float .f32 m
    | 8 => ∃ r, v = .float .f32 r ∧ canon .f32 r = fop .quo .f32 (canon .f32 s) (canon .f32 m)
    | 9 => ∃ r, v = .float .f32 r ∧ canon .f32 r = canon .f32 (rootF (fop .quo .f32 (canon .f32 s) (canon .f32 m)))
    | 10 => ∃ r, v = .float .f32 r ∧ canon .f32 r = fop .quo .f32 (canon .f32 (rootF (fop .quo .f32 (canon .f32 s) (canon .f32 m)))) (canon .f32 1086918619)
    | 11 => ∃ r, v = .float .f32 r ∧ canon .f32 r = fop .quo .f32 (canon .f32 (rootF (fop .quo .f32 (canon .f32 s) (canon .f32 m)))) (canon .f32 1086918619)
    | _ => False) (fun _ ww => ∃ nn, ww = w.drewN nn) (by kernel_rfl) (by kernel_rfl) ⟨1, rfl⟩ ?hop ?hend
  case hop =>
    intro q o hq listed act w3 hI hnot hcl hall
    obtain ⟨nn, rfl⟩ := hI.cls
    rcases q with _ | _ | _ | _ | _ | _ | _ | _ | _ | _ | _ | _ | q
    · simp at hq; subst hq
      have g0 : act.tmps[0]?.getD undef = .pointer (some ⟨B, 0, none⟩) := hI.kept 0 (by kernel_rfl)
      clear hI hall hnot hcl
      refine .inl ⟨wanted_none rfl, ?_⟩
      unfold Oper.wp
      go_simp
      all_goals exact ⟨_, rfl, rfl, ⟨_, rfl⟩⟩
    · simp at hq; subst hq
      have g3 : act.tmps[3]?.getD undef = .pointer (some ⟨B, 0, none⟩) := hI.has 0 3 rfl (hall ⟨0, .data⟩ (by simp) rfl)
      clear hI hall hnot hcl
      refine .inl ⟨wanted_none rfl, ?_⟩
      unfold Oper.wp
      go_simp
      all_goals exact ⟨_, rfl, rfl, ⟨_, rfl⟩⟩
    · simp at hq; subst hq
      have g4 : act.tmps[4]?.getD undef = .pointer (some ⟨B, 0, none⟩) := hI.has 1 4 rfl (hall ⟨1, .data⟩ (by simp) rfl)
      clear hI hall hnot hcl
      refine .inl ⟨wanted_none rfl, ?_⟩
      unfold Oper.wp
      go_simp
      all_goals exact ⟨_, rfl, rfl, ⟨_, rfl⟩⟩
    · simp at hq; subst hq
      have g5 : act.tmps[5]?.getD undef = .pointer (some ⟨B, 2, none⟩) := hI.has 2 5 rfl (hall ⟨2, .data⟩ (by simp) rfl)
      clear hI hall hnot hcl
      refine .inl ⟨wanted_none rfl, ?_⟩
      unfold Oper.wp
      go_simp
      all_goals exact ⟨_, rfl, rfl, ⟨_, rfl⟩⟩
    · simp at hq; subst hq
      have g0 : act.tmps[0]?.getD undef = .pointer (some ⟨B, 0, none⟩) := hI.kept 0 (by kernel_rfl)
      clear hI hall hnot hcl
      refine .inl ⟨wanted_none rfl, ?_⟩
      unfold Oper.wp
      go_simp
      all_goals exact ⟨_, rfl, rfl, ⟨_, rfl⟩⟩
    · simp at hq; subst hq
      have g7 : act.tmps[7]?.getD undef = .pointer (some ⟨B, 0, none⟩) := hI.has 4 7 rfl (hall ⟨4, .data⟩ (by simp) rfl)
      clear hI hall hnot hcl
      refine .inl ⟨wanted_none rfl, ?_⟩
      unfold Oper.wp
      go_simp
      all_goals exact ⟨_, rfl, rfl, ⟨_, rfl⟩⟩
    · simp at hq; subst hq
      have g8 : act.tmps[8]?.getD undef = .pointer (some ⟨B, 0, none⟩) := hI.has 5 8 rfl (hall ⟨5, .data⟩ (by simp) rfl)
      clear hI hall hnot hcl
      refine .inl ⟨wanted_none rfl, ?_⟩
      unfold Oper.wp
      go_simp
      all_goals exact ⟨_, rfl, rfl, ⟨_, rfl⟩⟩
    · simp at hq; subst hq
      have g9 : act.tmps[9]?.getD undef = .pointer (some ⟨B, 0, none⟩) := hI.has 6 9 rfl (hall ⟨6, .data⟩ (by simp) rfl)
      clear hI hall hnot hcl
      refine .inl ⟨wanted_none rfl, ?_⟩
      unfold Oper.wp
      go_simp
      all_goals exact ⟨_, rfl, rfl, ⟨_, rfl⟩⟩
    · simp at hq; subst hq
      have g6 : act.tmps[6]?.getD undef = .float .f32 s := hI.has 3 6 rfl (hall ⟨3, .data⟩ (by simp) rfl)
      have g10 : act.tmps[10]?.getD undef = .float .f32 m := hI.has 7 10 rfl (hall ⟨7, .data⟩ (by simp) rfl)
      clear hI hall hnot hcl
      refine .inl ⟨wanted_none rfl, ?_⟩
      unfold Oper.wp
      go_simp
      exact ⟨_, rfl, ⟨_, rfl, canonF rfl rfl⟩, by first | exact ⟨_, rfl⟩ | exact hdd _ _⟩
    · simp at hq; subst hq
      obtain ⟨r8, g11, h8a⟩ := hI.has 8 11 rfl (hall ⟨8, .data⟩ (by simp) rfl)
      clear hI hall hnot hcl
      refine .inl ⟨wanted_none rfl, ?_⟩
      unfold Oper.wp
      go_simp
      refine (s_l01Sqrt _ _).mono ?_
      rintro e w4 ⟨rs, ns, rfl, hrs, rfl⟩
      exact ⟨_, rfl, ⟨_, rfl, hrs.trans (congrArg (fun z => canon .f32 (rootF z)) (h8a))⟩, by first | exact ⟨_, rfl⟩ | exact hdd _ _⟩
    · simp at hq; subst hq
      obtain ⟨r9, g12, h9a⟩ := hI.has 9 12 rfl (hall ⟨9, .data⟩ (by simp) rfl)
      clear hI hall hnot hcl
      refine .inl ⟨wanted_none rfl, ?_⟩
      unfold Oper.wp
      go_simp
      exact ⟨_, rfl, ⟨_, rfl, canonF h9a rfl⟩, by first | exact ⟨_, rfl⟩ | exact hdd _ _⟩
    · simp at hq; subst hq
      obtain ⟨r10, g13, h10a⟩ := hI.has 10 13 rfl (hall ⟨10, .data⟩ (by simp) rfl)
      clear hI hall hnot hcl
      refine .inl ⟨wanted_none rfl, ?_⟩
      unfold Oper.wp
      go_simp
      exact ⟨_, rfl, ⟨_, rfl, h10a⟩, ⟨_, rfl⟩⟩
    · simp at hq
  case hend =>
    intro listed act w3 hI hall
    obtain ⟨nn, rfl⟩ := hI.cls
    obtain ⟨rq, g2, hrq⟩ := hI.has 11 2 rfl (hall 11 (by decide))
    have hd := hI.defers
    clear hI hall
    go_wp2
    refine bodyPost_ret (v := .float .f32 rq) (by simp [results, Try.results60, g2, go_sem]) (by first | rfl | exact hd) ⟨rq, rfl, hrq, nn, rfl⟩
set_option maxHeartbeats 4000000 in
theorem s_TowerRate (m d s : Nat) (w : World) :
    Calls Try.prog 18 #[.agg #[.float .f32 m, .float .f32 d, .float .f32 s]] w fun e w' => ∃ r, e = .returned (.tuple #[.float .f32 r, .bool (twrO m d s)]) ∧ canon .f32 r = twrR m d s ∧ Below w.heap.size w w' := by
  have HB : ∀ o1, Hid (Below w.heap.size w (w.alloc o1)) := fun _ => Lib.hid ((Below.refl _ _).alloc (Nat.le_refl _) _)
  have K0 : ∀ t, Hid (BlkL (w.alloc (.cells #[.float .f32 m, .float .f32 d, .float .f32 s] t)) w.heap.size [.float .f32 m, .float .f32 d, .float .f32 s]) := fun _ => Lib.hid (blkL_at w #[.float .f32 m, .float .f32 d, .float .f32 s] _ rfl)
  have k0 := fun t => ((K0 t).out.2 0 _ rfl).1
  have k1 := fun t => ((K0 t).out.2 1 _ rfl).1
  have k2 := fun t => ((K0 t).out.2 2 _ rfl).1
  go_enter Try.func18, Try.ntmps18
  go_wp2_with fail
  refine (s_l07Tower m d s _ _ (K0 _).out).mono ?_
  rintro e w' ⟨n1, rfl, rfl⟩
  cases v : towV m d s
  · go_wp2
    go_ret2
    exact ⟨_, by unfold twrO; rw [v]; rfl, by unfold twrR; rw [v]; exact canon_zero, by repeat (first | exact (HB _).out | refine below_draws ?_ _)⟩
  · have V := Lib.hid v; clear v
    go_wp2_with fail
    refine (s_l07Rate m d s _ _ (BlkL.draws (K0 _).out _)).mono ?_
    rintro e w' ⟨r, n2, rfl, hr, rfl⟩
    go_wp2_with fail
    refine (s_l03NumberC _ _ _ hr).mono ?_
    rintro e w' ⟨r', n3, rfl, hr', rfl⟩
    have HR := Lib.hid hr'; clear hr hr'
    go_wp2
    go_ret2
    exact ⟨_, by unfold twrO; rw [V.out]; rfl, by rw [HR.out]; unfold twrR; rw [V.out]; rfl, by repeat (first | exact (HB _).out | refine below_draws ?_ _)⟩
set_option maxHeartbeats 4000000 in
theorem i_canMove (m d s p u t : Nat) (w : World) :
    Calls Try.prog 67 #[.agg #[.float .f32 m, .float .f32 d, .float .f32 s], .float .f32 p, .float .f32 u, .float .f32 t] w fun e w' => e = .returned (.bool (movV m d s p u t)) ∧ Below w.heap.size w w' := by
  have HB : ∀ o1, Hid (Below w.heap.size w (w.alloc o1)) := fun _ => Lib.hid ((Below.refl _ _).alloc (Nat.le_refl _) _)
  have K0 : ∀ t, Hid (BlkL (w.alloc (.cells #[.float .f32 m, .float .f32 d, .float .f32 s] t)) w.heap.size [.float .f32 m, .float .f32 d, .float .f32 s]) := fun _ => Lib.hid (blkL_at w #[.float .f32 m, .float .f32 d, .float .f32 s] _ rfl)
  have k0 := fun t => ((K0 t).out.2 0 _ rfl).1
  have k1 := fun t => ((K0 t).out.2 1 _ rfl).1
  have k2 := fun t => ((K0 t).out.2 2 _ rfl).1
  go_enter Try.func67, Try.ntmps67
  go_wp2_with fail
  refine (i_ValidTower m d s _).mono ?_
  rintro e w1 ⟨rfl, b1⟩
  have B1 : Hid (Below w.heap.size w w1) := Lib.hid (below_of (HB _).out (HB _).out.size b1)
  have K1 : Hid (BlkL w1 w.heap.size [.float .f32 m, .float .f32 d, .float .f32 s]) := Lib.hid ((K0 _).out.below b1)
  clear b1 k0 k1 k2
  obtain ⟨k0, k1, k2⟩ := K1.out.three
  cases h1 : towV m d s
  · go_wp2
    go_ret
    exact ⟨by unfold movV; rw [h1]; rfl, B1.out⟩
  · go_wp2_with fail
    refine (i_IsFinite _ _).mono ?_
    rintro e w' ⟨n1, rfl, rfl⟩
    cases h2 : fin .f32 p
    · go_wp2
      go_ret
      exact ⟨by unfold movV; rw [h1, h2]; rfl, by repeat (first | exact B1.out | refine below_draws ?_ _)⟩
    · go_wp2_with fail
      refine (i_IsFinite _ _).mono ?_
      rintro e w' ⟨n2, rfl, rfl⟩
      cases h3 : fin .f32 u
      · go_wp2
        go_ret
        exact ⟨by unfold movV; rw [h1, h2, h3]; rfl, by repeat (first | exact B1.out | refine below_draws ?_ _)⟩
      · go_wp2_with fail
        refine (i_isPositive _ _).mono ?_
        rintro e w' ⟨n3, rfl, rfl⟩
        go_wp2
        go_ret
        exact ⟨by unfold movV; rw [h1, h2, h3]; rfl, by repeat (first | exact B1.out | refine below_draws ?_ _)⟩
set_option maxHeartbeats 8000000 in
set_option maxRecDepth 100000 in
theorem i_StepTower (m d s p u f t : Nat) (w : World) :
    Calls Try.prog 22 #[.agg #[.float .f32 m, .float .f32 d, .float .f32 s], .float .f32 p, .float .f32 u, .float .f32 f, .float .f32 t] w fun e w' => ∃ r q, e = .returned (.tuple #[.float .f32 r, .float .f32 q, .bool (stpO m d s p u f t)]) ∧ canon .f32 r = stpR1 m d s p u f t ∧ canon .f32 q = stpR2 m d s p u f t ∧ Below w.heap.size w w' := by
  have HB : ∀ o1, Hid (Below w.heap.size w (w.alloc o1)) := fun _ => Lib.hid ((Below.refl _ _).alloc (Nat.le_refl _) _)
  have K0 : ∀ t, Hid (BlkL (w.alloc (.cells #[.float .f32 m, .float .f32 d, .float .f32 s] t)) w.heap.size [.float .f32 m, .float .f32 d, .float .f32 s]) := fun _ => Lib.hid (blkL_at w #[.float .f32 m, .float .f32 d, .float .f32 s] _ rfl)
  have k0 := fun t => ((K0 t).out.2 0 _ rfl).1
  have k1 := fun t => ((K0 t).out.2 1 _ rfl).1
  have k2 := fun t => ((K0 t).out.2 2 _ rfl).1
  go_enter Try.func22, Try.ntmps22
  go_wp2_with fail
  refine (i_canMove m d s p u t _).mono ?_
  rintro e w1 ⟨rfl, b1⟩
  have B1 : Hid (Below w.heap.size w w1) := Lib.hid (below_of (HB _).out (HB _).out.size b1)
  have K1 : Hid (BlkL w1 w.heap.size [.float .f32 m, .float .f32 d, .float .f32 s]) := Lib.hid ((K0 _).out.below b1)
  clear b1 k0 k1 k2
  obtain ⟨k0, k1, k2⟩ := K1.out.three
  cases h1 : movV m d s p u t
  · go_wp2
    refine bodyPost_ret (results_tmp3 rfl _ _ _) rfl ?_
    exact ⟨_, _, by unfold stpO stpC; rw [h1]; rfl, by unfold stpR1 stpC; rw [h1]; exact canon_zero, by unfold stpR2 stpC; rw [h1]; exact canon_zero, B1.out⟩
  · have V := Lib.hid h1; clear h1
    go_wp2_with fail
    refine (i_notFinite _ _).mono ?_
    rintro e w2 ⟨n2, rfl, hw⟩
    have B2 : Hid (Below w.heap.size w w2) := Lib.hid (by rw [hw]; exact below_draws B1.out _)
    have K2 : Hid (BlkL w2 w.heap.size [.float .f32 m, .float .f32 d, .float .f32 s]) := Lib.hid (by rw [hw]; exact K1.out.draws _)
    clear hw k0 k1 k2 K1
    obtain ⟨k0, k1, k2⟩ := K2.out.three
    cases h2 : fin .f32 f
    · go_wp2
      refine bodyPost_ret (results_tmp3 rfl _ _ _) rfl ?_
      exact ⟨_, _, by unfold stpO stpC; rw [V.out, h2]; rfl, by unfold stpR1 stpC; rw [V.out, h2]; exact canon_zero, by unfold stpR2 stpC; rw [V.out, h2]; exact canon_zero, B2.out⟩
    · have VF := Lib.hid h2; clear h2
      have hdd : ∀ nn j, ∃ mm, (w2.drewN nn).drewN j = w2.drewN mm := fun nn j => ⟨nn + j, World.drewN_drewN ..⟩
      go_wp2_with fail
      refine wp_region_inv3 (fun iq v => match iq with
        | 0 => v = .float .f32 f
        | 1 => v = .pointer (some ⟨w.heap.size, 1, none⟩)
        | 2 => v = .float .f32 d
        | 3 => v = .float .f32 u
        | 4 => ∃ r, v = .float .f32 r ∧ canon .f32 r = fop .mul .f32 (canon .f32 d) (canon .f32 u)
        | 5 => ∃ r, v = .float .f32 r ∧ canon .f32 r = fop .sub .f32 (canon .f32 f) (fop .mul .f32 (canon .f32 d) (canon .f32 u))
        | 6 => v = .pointer (some ⟨w.heap.size, 2, none⟩)
        | 7 => v = .float .f32 s
        | 8 => v = .float .f32 p
        | 9 => ∃ r, v = .float .f32 r ∧ canon .f32 r = fop .mul .f32 (canon .f32 s) (canon .f32 p)
        | 10 => ∃ r, v = .float .f32 r ∧ canon .f32 r = fop .sub .f32 (fop .sub .f32 (canon .f32 f) (fop .mul .f32 (canon .f32 d) (canon .f32 u))) (fop .mul .f32 (canon .f32 s) (canon .f32 p))
        | 11 => ∃ r, v = .float .f32 r ∧ canon .f32 r = fop .sub .f32 (fop .sub .f32 (canon .f32 f) (fop .mul .f32 (canon .f32 d) (canon .f32 u))) (fop .mul .f32 (canon .f32 s) (canon .f32 p))
        | _ => False) (fun _ ww => ∃ nn, ww = w2.drewN nn) (by kernel_rfl) (by kernel_rfl) ⟨1, rfl⟩ ?hop ?hend
      case hop =>
        intro q o hq listed act w3 hI hnot hcl hall
        obtain ⟨nn, rfl⟩ := hI.cls
        rcases q with _ | _ | _ | _ | _ | _ | _ | _ | _ | _ | _ | _ | q
        · simp at hq; subst hq
          have g3 : act.tmps[3]?.getD undef = .float .f32 f := hI.kept 3 (by kernel_rfl)
          clear hI hall hnot hcl
          refine .inl ⟨wanted_none rfl, ?_⟩
          unfold Oper.wp
          go_simp
          all_goals exact ⟨_, rfl, rfl, ⟨_, rfl⟩⟩
        · simp at hq; subst hq
          have g5 : act.tmps[5]?.getD undef = .pointer (some ⟨w.heap.size, 0, none⟩) := hI.kept 5 (by kernel_rfl)
          clear hI hall hnot hcl
          refine .inl ⟨wanted_none rfl, ?_⟩
          unfold Oper.wp
          go_simp
          all_goals exact ⟨_, rfl, rfl, ⟨_, rfl⟩⟩
        · simp at hq; subst hq
          have g25 : act.tmps[25]?.getD undef = .pointer (some ⟨w.heap.size, 1, none⟩) := hI.has 1 25 rfl (hall ⟨1, .data⟩ (by simp) rfl)
          clear hI hall hnot hcl
          refine .inl ⟨wanted_none rfl, ?_⟩
          unfold Oper.wp
          go_simp
          all_goals exact ⟨_, rfl, rfl, ⟨_, rfl⟩⟩
        · simp at hq; subst hq
          have g2 : act.tmps[2]?.getD undef = .float .f32 u := hI.kept 2 (by kernel_rfl)
          clear hI hall hnot hcl
          refine .inl ⟨wanted_none rfl, ?_⟩
          unfold Oper.wp
          go_simp
          all_goals exact ⟨_, rfl, rfl, ⟨_, rfl⟩⟩
        · simp at hq; subst hq
          have g26 : act.tmps[26]?.getD undef = .float .f32 d := hI.has 2 26 rfl (hall ⟨2, .data⟩ (by simp) rfl)
          have g27 : act.tmps[27]?.getD undef = .float .f32 u := hI.has 3 27 rfl (hall ⟨3, .data⟩ (by simp) rfl)
          clear hI hall hnot hcl
          refine .inl ⟨wanted_none rfl, ?_⟩
          unfold Oper.wp
          go_simp
          refine (i_mulNumbers _ _ _).mono ?_
          rintro e w4 ⟨rfl, rfl⟩
          exact ⟨_, rfl, ⟨_, rfl, canonF rfl rfl⟩, by first | exact ⟨_, rfl⟩ | exact hdd _ _⟩
        · simp at hq; subst hq
          have g24 : act.tmps[24]?.getD undef = .float .f32 f := hI.has 0 24 rfl (hall ⟨0, .data⟩ (by simp) rfl)
          obtain ⟨r4, g28, h4a⟩ := hI.has 4 28 rfl (hall ⟨4, .data⟩ (by simp) rfl)
          clear hI hall hnot hcl
          refine .inl ⟨wanted_none rfl, ?_⟩
          unfold Oper.wp
          go_simp
          exact ⟨_, rfl, ⟨_, rfl, canonF rfl h4a⟩, by first | exact ⟨_, rfl⟩ | exact hdd _ _⟩
        · simp at hq; subst hq
          have g5 : act.tmps[5]?.getD undef = .pointer (some ⟨w.heap.size, 0, none⟩) := hI.kept 5 (by kernel_rfl)
          clear hI hall hnot hcl
          refine .inl ⟨wanted_none rfl, ?_⟩
          unfold Oper.wp
          go_simp
          all_goals exact ⟨_, rfl, rfl, ⟨_, rfl⟩⟩
        · simp at hq; subst hq
          have g30 : act.tmps[30]?.getD undef = .pointer (some ⟨w.heap.size, 2, none⟩) := hI.has 6 30 rfl (hall ⟨6, .data⟩ (by simp) rfl)
          clear hI hall hnot hcl
          refine .inl ⟨wanted_none rfl, ?_⟩
          unfold Oper.wp
          go_simp
          all_goals exact ⟨_, rfl, rfl, ⟨_, rfl⟩⟩
        · simp at hq; subst hq
          have g1 : act.tmps[1]?.getD undef = .float .f32 p := hI.kept 1 (by kernel_rfl)
          clear hI hall hnot hcl
          refine .inl ⟨wanted_none rfl, ?_⟩
          unfold Oper.wp
          go_simp
          all_goals exact ⟨_, rfl, rfl, ⟨_, rfl⟩⟩
        · simp at hq; subst hq
          have g31 : act.tmps[31]?.getD undef = .float .f32 s := hI.has 7 31 rfl (hall ⟨7, .data⟩ (by simp) rfl)
          have g32 : act.tmps[32]?.getD undef = .float .f32 p := hI.has 8 32 rfl (hall ⟨8, .data⟩ (by simp) rfl)
          clear hI hall hnot hcl
          refine .inl ⟨wanted_none rfl, ?_⟩
          unfold Oper.wp
          go_simp
          refine (i_mulNumbers _ _ _).mono ?_
          rintro e w4 ⟨rfl, rfl⟩
          exact ⟨_, rfl, ⟨_, rfl, canonF rfl rfl⟩, by first | exact ⟨_, rfl⟩ | exact hdd _ _⟩
        · simp at hq; subst hq
          obtain ⟨r5, g29, h5a⟩ := hI.has 5 29 rfl (hall ⟨5, .data⟩ (by simp) rfl)
          obtain ⟨r9, g33, h9a⟩ := hI.has 9 33 rfl (hall ⟨9, .data⟩ (by simp) rfl)
          clear hI hall hnot hcl
          refine .inl ⟨wanted_none rfl, ?_⟩
          unfold Oper.wp
          go_simp
          exact ⟨_, rfl, ⟨_, rfl, canonF h5a h9a⟩, by first | exact ⟨_, rfl⟩ | exact hdd _ _⟩
        · simp at hq; subst hq
          obtain ⟨r10, g34, h10a⟩ := hI.has 10 34 rfl (hall ⟨10, .data⟩ (by simp) rfl)
          clear hI hall hnot hcl
          refine .inl ⟨wanted_none rfl, ?_⟩
          unfold Oper.wp
          go_simp
          exact ⟨_, rfl, ⟨_, rfl, h10a⟩, ⟨_, rfl⟩⟩
        · simp at hq
      case hend =>
        intro listed act w3 hI hall
        obtain ⟨nn, rfl⟩ := hI.cls
        obtain ⟨r3, g13, h3⟩ := hI.has 11 13 rfl (hall 11 (by decide))
        have g0 := hI.kept 0 (by kernel_rfl)
        conv at g0 => rhs; whnf
        have g1 := hI.kept 1 (by kernel_rfl)
        conv at g1 => rhs; whnf
        have g2 := hI.kept 2 (by kernel_rfl)
        conv at g2 => rhs; whnf
        have g3 := hI.kept 3 (by kernel_rfl)
        conv at g3 => rhs; whnf
        have g4 := hI.kept 4 (by kernel_rfl)
        conv at g4 => rhs; whnf
        have g5 := hI.kept 5 (by kernel_rfl)
        conv at g5 => rhs; whnf
        have g6 : act.tmps[6]?.getD undef = undef := hI.kept 6 (by kernel_rfl)
        have g7 : act.tmps[7]?.getD undef = undef := hI.kept 7 (by kernel_rfl)
        have g8 : act.tmps[8]?.getD undef = undef := hI.kept 8 (by kernel_rfl)
        have g9 : act.tmps[9]?.getD undef = undef := hI.kept 9 (by kernel_rfl)
        have g10 := hI.kept 10 (by kernel_rfl)
        conv at g10 => rhs; whnf
        have g11 := hI.kept 11 (by kernel_rfl)
        conv at g11 => rhs; whnf
        have g12 := hI.kept 12 (by kernel_rfl)
        conv at g12 => rhs; whnf
        have g14 := hI.kept 14 (by kernel_rfl)
        conv at g14 => rhs; whnf
        have g15 := hI.kept 15 (by kernel_rfl)
        conv at g15 => rhs; whnf
        have g16 := hI.kept 16 (by kernel_rfl)
        conv at g16 => rhs; whnf
        have g17 := hI.kept 17 (by kernel_rfl)
        conv at g17 => rhs; whnf
        have g18 := hI.kept 18 (by kernel_rfl)
        conv at g18 => rhs; whnf
        have g19 := hI.kept 19 (by kernel_rfl)
        conv at g19 => rhs; whnf
        have g20 := hI.kept 20 (by kernel_rfl)
        conv at g20 => rhs; whnf
        have g21 := hI.kept 21 (by kernel_rfl)
        conv at g21 => rhs; whnf
        have g22 := hI.kept 22 (by kernel_rfl)
        conv at g22 => rhs; whnf
        have g23 := hI.kept 23 (by kernel_rfl)
        conv at g23 => rhs; whnf
        have g35 : act.tmps[35]?.getD undef = undef := hI.kept 35 (by kernel_rfl)
        have g36 : act.tmps[36]?.getD undef = undef := hI.kept 36 (by kernel_rfl)
        have g37 : act.tmps[37]?.getD undef = undef := hI.kept 37 (by kernel_rfl)
        have g38 : act.tmps[38]?.getD undef = undef := hI.kept 38 (by kernel_rfl)
        have g39 : act.tmps[39]?.getD undef = undef := hI.kept 39 (by kernel_rfl)
        have g40 : act.tmps[40]?.getD undef = undef := hI.kept 40 (by kernel_rfl)
        have g41 : act.tmps[41]?.getD undef = undef := hI.kept 41 (by kernel_rfl)
        have g42 : act.tmps[42]?.getD undef = undef := hI.kept 42 (by kernel_rfl)
        have g43 : act.tmps[43]?.getD undef = undef := hI.kept 43 (by kernel_rfl)
        have g44 : act.tmps[44]?.getD undef = undef := hI.kept 44 (by kernel_rfl)
        have g45 : act.tmps[45]?.getD undef = undef := hI.kept 45 (by kernel_rfl)
        have g46 : act.tmps[46]?.getD undef = undef := hI.kept 46 (by kernel_rfl)
        have g47 : act.tmps[47]?.getD undef = undef := hI.kept 47 (by kernel_rfl)
        have g48 : act.tmps[48]?.getD undef = undef := hI.kept 48 (by kernel_rfl)
        have g49 : act.tmps[49]?.getD undef = undef := hI.kept 49 (by kernel_rfl)
        have g50 : act.tmps[50]?.getD undef = undef := hI.kept 50 (by kernel_rfl)
        have g51 : act.tmps[51]?.getD undef = undef := hI.kept 51 (by kernel_rfl)
        have g52 : act.tmps[52]?.getD undef = undef := hI.kept 52 (by kernel_rfl)
        have g53 : act.tmps[53]?.getD undef = undef := hI.kept 53 (by kernel_rfl)
        have hsz : act.tmps.size = 54 := hI.size.trans (by kernel_rfl)
        have hd := hI.defers
        clear hI hall
        obtain ⟨tt, dd⟩ := act
        simp only at g0 g1 g2 g3 g4 g5 g6 g7 g8 g9 g10 g11 g12 g13 g14 g15 g16 g17 g18 g19 g20 g21 g22 g23 g35 g36 g37 g38 g39 g40 g41 g42 g43 g44 g45 g46 g47 g48 g49 g50 g51 g52 g53 hsz hd
        subst hd
        have hl : tt = #[tt[0]?.getD undef, tt[1]?.getD undef, tt[2]?.getD undef, tt[3]?.getD undef, tt[4]?.getD undef, tt[5]?.getD undef, tt[6]?.getD undef, tt[7]?.getD undef, tt[8]?.getD undef, tt[9]?.getD undef, tt[10]?.getD undef, tt[11]?.getD undef, tt[12]?.getD undef, tt[13]?.getD undef, tt[14]?.getD undef, tt[15]?.getD undef, tt[16]?.getD undef, tt[17]?.getD undef, tt[18]?.getD undef, tt[19]?.getD undef, tt[20]?.getD undef, tt[21]?.getD undef, tt[22]?.getD undef, tt[23]?.getD undef, tt[24]?.getD undef, tt[25]?.getD undef, tt[26]?.getD undef, tt[27]?.getD undef, tt[28]?.getD undef, tt[29]?.getD undef, tt[30]?.getD undef, tt[31]?.getD undef, tt[32]?.getD undef, tt[33]?.getD undef, tt[34]?.getD undef, tt[35]?.getD undef, tt[36]?.getD undef, tt[37]?.getD undef, tt[38]?.getD undef, tt[39]?.getD undef, tt[40]?.getD undef, tt[41]?.getD undef, tt[42]?.getD undef, tt[43]?.getD undef, tt[44]?.getD undef, tt[45]?.getD undef, tt[46]?.getD undef, tt[47]?.getD undef, tt[48]?.getD undef, tt[49]?.getD undef, tt[50]?.getD undef, tt[51]?.getD undef, tt[52]?.getD undef, tt[53]?.getD undef] := (arr_lit hsz).trans rfl
        rw [g0, g1, g2, g3, g4, g5, g6, g7, g8, g9, g10, g11, g12, g13, g14, g15, g16, g17, g18, g19, g20, g21, g22, g23, g35, g36, g37, g38, g39, g40, g41, g42, g43, g44, g45, g46, g47, g48, g49, g50, g51, g52, g53] at hl
        clear g0 g1 g2 g3 g4 g5 g6 g7 g8 g9 g10 g11 g12 g13 g14 g15 g16 g17 g18 g19 g20 g21 g22 g23 g35 g36 g37 g38 g39 g40 g41 g42 g43 g44 g45 g46 g47 g48 g49 g50 g51 g52 g53 hsz
        generalize tt[24]?.getD undef = y24 at hl
        generalize tt[25]?.getD undef = y25 at hl
        generalize tt[26]?.getD undef = y26 at hl
        generalize tt[27]?.getD undef = y27 at hl
        generalize tt[28]?.getD undef = y28 at hl
        generalize tt[29]?.getD undef = y29 at hl
        generalize tt[30]?.getD undef = y30 at hl
        generalize tt[31]?.getD undef = y31 at hl
        generalize tt[32]?.getD undef = y32 at hl
        generalize tt[33]?.getD undef = y33 at hl
        generalize tt[34]?.getD undef = y34 at hl
        subst hl
        have HS : Hid (∀ W1 W2 W3, canon .f32 (fopV .add .f32 u (fopV .mul .f32 t (fopV .quo .f32 r3 m W1) W2) W3) = stpS m d s p u f t) := Lib.hid (fun _ _ _ => by unfold stpS; exact canonF rfl (canonF rfl (canonF h3 rfl)))
        clear h3
        go_wp2_with fail
        refine (i_mulNumbers _ _ _).mono ?_
        rintro e w' ⟨rfl, rfl⟩
        go_wp2_with fail
        refine (i_mulNumbers _ _ _).mono ?_
        rintro e w' ⟨rfl, rfl⟩
        go_wp2_with fail
        refine (i_bothFinite _ _ (stpP m d s p u f t) (stpS m d s p u f t) _ (by unfold stpP; exact canonF rfl (canonF rfl (HS.out _ _ _))) (HS.out _ _ _)).mono ?_
        rintro e w' ⟨ra, rb, nb, rfl, ha, hb, rfl⟩
        have HA := Lib.hid ha
        have HC := Lib.hid hb
        clear ha hb
        go_wp2
        refine bodyPost_ret (results_tmp3 rfl _ _ _) rfl ?_
        exact ⟨_, _, by unfold stpO stpC; rw [V.out, VF.out]; rfl, by rw [HA.out]; unfold stpR1 stpC; rw [V.out, VF.out]; rfl, by rw [HC.out]; unfold stpR2 stpC; rw [V.out, VF.out]; rfl, by repeat (first | exact B2.out | refine below_draws ?_ _)⟩
set_option maxHeartbeats 8000000 in
set_option maxRecDepth 100000 in
theorem s_l07Step (m d s p u f t B : Nat) (w : World) (hk : BlkL w B [.float .f32 m, .float .f32 d, .float .f32 s]) :
    Calls Try.prog 66 #[.pointer (some ⟨B, 0, none⟩), .float .f32 p, .float .f32 u, .float .f32 f, .float .f32 t] w fun e w' => ∃ r q n, e = .returned (.tuple #[.float .f32 r, .float .f32 q]) ∧ canon .f32 r = stpP m d s p u f t ∧ canon .f32 q = stpS m d s p u f t ∧ w' = w.drewN n := by
  obtain ⟨k0, k1, k2⟩ := hk.three
  clear hk
  have hdd : ∀ nn j, ∃ mm, (w.drewN nn).drewN j = w.drewN mm := fun nn j => ⟨nn + j, World.drewN_drewN ..⟩
  go_enter Try.func66, Try.ntmps66
  go_wp2_with fail
  refine wp_region_inv3 (fun iq v => match iq with
    | 0 => v = .float .f32 f
    | 1 => v = .pointer (some ⟨B, 0, none⟩)
    | 2 => v = .pointer (some ⟨B, 0, none⟩)
    | 3 => v = .pointer (some ⟨B, 1, none⟩)
    | 4 => v = .float .f32 d
    | 5 => v = .float .f32 u
    | 6 => ∃ r, v = .float .f32 r ∧ canon .f32 r = fop .mul .f32 (canon .f32 d) (canon .f32 u)
    | 7 => ∃ r, v = .float .f32 r ∧ canon .f32 r = fop .sub .f32 (canon .f32 f) (fop .mul .f32 (canon .f32 d) (canon .f32 u))
    | 8 => v = .pointer (some ⟨B, 0, none⟩)
    | 9 => v = .pointer (some ⟨B, 0, none⟩)
    | 10 => v = .pointer (some ⟨B, 2, none⟩)
    | 11 => v = .float .f32 s
    | 12 => v = .float .f32 p
    | 13 => ∃ r, v = .float .f32 r ∧ canon .f32 r = fop .mul .f32 (canon .f32 s) (canon .f32 p)
    | 14 => ∃ r, v = .float .f32 r ∧ canon .f32 r = fop .sub .f32 (fop .sub .f32 (canon .f32 f) (fop .mul .f32 (canon .f32 d) (canon .f32 u))) (fop .mul .f32 (canon .f32 s) (canon .f32 p))
    | 15 => ∃ r, v = .float .f32 r ∧ canon .f32 r = fop .sub .f32 (fop .sub .f32 (canon .f32 f) (fop .mul .f32 (canon .f32 d) (canon .f32 u))) (fop .mul .f32 (canon .f32 s) (canon .f32 p))
    | _ => False) (fun _ ww => ∃ nn, ww = w.drewN nn) (by kernel_rfl) (by kernel_rfl) ⟨1, rfl⟩ ?hop ?hend
  case hop =>
    intro q o hq listed act w3 hI hnot hcl hall
    obtain ⟨nn, rfl⟩ := hI.cls
    rcases q with _ | _ | _ | _ | _ | _ | _ | _ | _ | _ | _ | _ | _ | _ | _ | _ | q
    · simp at hq; subst hq
      have g3 : act.tmps[3]?.getD undef = .float .f32 f := hI.kept 3 (by kernel_rfl)
      clear hI hall hnot hcl
      refine .inl ⟨wanted_none rfl, ?_⟩
      unfold Oper.wp
      go_simp
      all_goals exact ⟨_, rfl, rfl, ⟨_, rfl⟩⟩
    · simp at hq; subst hq
      have g0 : act.tmps[0]?.getD undef = .pointer (some ⟨B, 0, none⟩) := hI.kept 0 (by kernel_rfl)
      clear hI hall hnot hcl
      refine .inl ⟨wanted_none rfl, ?_⟩
      unfold Oper.wp
      go_simp
      all_goals exact ⟨_, rfl, rfl, ⟨_, rfl⟩⟩
    · simp at hq; subst hq
      have g14 : act.tmps[14]?.getD undef = .pointer (some ⟨B, 0, none⟩) := hI.has 1 14 rfl (hall ⟨1, .data⟩ (by simp) rfl)
      clear hI hall hnot hcl
      refine .inl ⟨wanted_none rfl, ?_⟩
      unfold Oper.wp
      go_simp
      all_goals exact ⟨_, rfl, rfl, ⟨_, rfl⟩⟩
    · simp at hq; subst hq
      have g15 : act.tmps[15]?.getD undef = .pointer (some ⟨B, 0, none⟩) := hI.has 2 15 rfl (hall ⟨2, .data⟩ (by simp) rfl)
      clear hI hall hnot hcl
      refine .inl ⟨wanted_none rfl, ?_⟩
      unfold Oper.wp
      go_simp
      all_goals exact ⟨_, rfl, rfl, ⟨_, rfl⟩⟩
    · simp at hq; subst hq
      have g16 : act.tmps[16]?.getD undef = .pointer (some ⟨B, 1, none⟩) := hI.has 3 16 rfl (hall ⟨3, .data⟩ (by simp) rfl)
      clear hI hall hnot hcl
      refine .inl ⟨wanted_none rfl, ?_⟩
      unfold Oper.wp
      go_simp
      all_goals exact ⟨_, rfl, rfl, ⟨_, rfl⟩⟩
    · simp at hq; subst hq
      have g2 : act.tmps[2]?.getD undef = .float .f32 u := hI.kept 2 (by kernel_rfl)
      clear hI hall hnot hcl
      refine .inl ⟨wanted_none rfl, ?_⟩
      unfold Oper.wp
      go_simp
      all_goals exact ⟨_, rfl, rfl, ⟨_, rfl⟩⟩
    · simp at hq; subst hq
      have g17 : act.tmps[17]?.getD undef = .float .f32 d := hI.has 4 17 rfl (hall ⟨4, .data⟩ (by simp) rfl)
      have g18 : act.tmps[18]?.getD undef = .float .f32 u := hI.has 5 18 rfl (hall ⟨5, .data⟩ (by simp) rfl)
      clear hI hall hnot hcl
      refine .inl ⟨wanted_none rfl, ?_⟩
      unfold Oper.wp
      go_simp
      exact ⟨_, rfl, ⟨_, rfl, canonF rfl rfl⟩, by first | exact ⟨_, rfl⟩ | exact hdd _ _⟩
    · simp at hq; subst hq
      have g13 : act.tmps[13]?.getD undef = .float .f32 f := hI.has 0 13 rfl (hall ⟨0, .data⟩ (by simp) rfl)
      obtain ⟨r6, g19, h6a⟩ := hI.has 6 19 rfl (hall ⟨6, .data⟩ (by simp) rfl)
      clear hI hall hnot hcl
      refine .inl ⟨wanted_none rfl, ?_⟩
      unfold Oper.wp
      go_simp
      exact ⟨_, rfl, ⟨_, rfl, canonF rfl h6a⟩, by first | exact ⟨_, rfl⟩ | exact hdd _ _⟩
    · simp at hq; subst hq
      have g0 : act.tmps[0]?.getD undef = .pointer (some ⟨B, 0, none⟩) := hI.kept 0 (by kernel_rfl)
      clear hI hall hnot hcl
      refine .inl ⟨wanted_none rfl, ?_⟩
      unfold Oper.wp
      go_simp
      all_goals exact ⟨_, rfl, rfl, ⟨_, rfl⟩⟩
    · simp at hq; subst hq
      have g21 : act.tmps[21]?.getD undef = .pointer (some ⟨B, 0, none⟩) := hI.has 8 21 rfl (hall ⟨8, .data⟩ (by simp) rfl)
      clear hI hall hnot hcl
      refine .inl ⟨wanted_none rfl, ?_⟩
      unfold Oper.wp
      go_simp
      all_goals exact ⟨_, rfl, rfl, ⟨_, rfl⟩⟩
    · simp at hq; subst hq
      have g22 : act.tmps[22]?.getD undef = .pointer (some ⟨B, 0, none⟩) := hI.has 9 22 rfl (hall ⟨9, .data⟩ (by simp) rfl)
      clear hI hall hnot hcl
      refine .inl ⟨wanted_none rfl, ?_⟩
      unfold Oper.wp
      go_simp
      all_goals exact ⟨_, rfl, rfl, ⟨_, rfl⟩⟩
    · simp at hq; subst hq
      have g23 : act.tmps[23]?.getD undef = .pointer (some ⟨B, 2, none⟩) := hI.has 10 23 rfl (hall ⟨10, .data⟩ (by simp) rfl)
      clear hI hall hnot hcl
      refine .inl ⟨wanted_none rfl, ?_⟩
      unfold Oper.wp
      go_simp
      all_goals exact ⟨_, rfl, rfl, ⟨_, rfl⟩⟩
    · simp at hq; subst hq
      have g1 : act.tmps[1]?.getD undef = .float .f32 p := hI.kept 1 (by kernel_rfl)
      clear hI hall hnot hcl
      refine .inl ⟨wanted_none rfl, ?_⟩
      unfold Oper.wp
      go_simp
      all_goals exact ⟨_, rfl, rfl, ⟨_, rfl⟩⟩
    · simp at hq; subst hq
      have g24 : act.tmps[24]?.getD undef = .float .f32 s := hI.has 11 24 rfl (hall ⟨11, .data⟩ (by simp) rfl)
      have g25 : act.tmps[25]?.getD undef = .float .f32 p := hI.has 12 25 rfl (hall ⟨12, .data⟩ (by simp) rfl)
      clear hI hall hnot hcl
      refine .inl ⟨wanted_none rfl, ?_⟩
      unfold Oper.wp
      go_simp
      exact ⟨_, rfl, ⟨_, rfl, canonF rfl rfl⟩, by first | exact ⟨_, rfl⟩ | exact hdd _ _⟩
    · simp at hq; subst hq
      obtain ⟨r7, g20, h7a⟩ := hI.has 7 20 rfl (hall ⟨7, .data⟩ (by simp) rfl)
      obtain ⟨r13, g26, h13a⟩ := hI.has 13 26 rfl (hall ⟨13, .data⟩ (by simp) rfl)
      clear hI hall hnot hcl
      refine .inl ⟨wanted_none rfl, ?_⟩
      unfold Oper.wp
      go_simp
      exact ⟨_, rfl, ⟨_, rfl, canonF h7a h13a⟩, by first | exact ⟨_, rfl⟩ | exact hdd _ _⟩
    · simp at hq; subst hq
      obtain ⟨r14, g27, h14a⟩ := hI.has 14 27 rfl (hall ⟨14, .data⟩ (by simp) rfl)
      clear hI hall hnot hcl
      refine .inl ⟨wanted_none rfl, ?_⟩
      unfold Oper.wp
      go_simp
      exact ⟨_, rfl, ⟨_, rfl, h14a⟩, ⟨_, rfl⟩⟩
    · simp at hq
  case hend =>
    intro listed act w3 hI hall
    obtain ⟨nn, rfl⟩ := hI.cls
    obtain ⟨r3, g12, h3⟩ := hI.has 15 12 rfl (hall 15 (by decide))
    have g0 := hI.kept 0 (by kernel_rfl)
    conv at g0 => rhs; whnf
    have g1 := hI.kept 1 (by kernel_rfl)
    conv at g1 => rhs; whnf
    have g2 := hI.kept 2 (by kernel_rfl)
    conv at g2 => rhs; whnf
    have g3 := hI.kept 3 (by kernel_rfl)
    conv at g3 => rhs; whnf
    have g4 := hI.kept 4 (by kernel_rfl)
    conv at g4 => rhs; whnf
    have g5 : act.tmps[5]?.getD undef = undef := hI.kept 5 (by kernel_rfl)
    have g6 : act.tmps[6]?.getD undef = undef := hI.kept 6 (by kernel_rfl)
    have g7 : act.tmps[7]?.getD undef = undef := hI.kept 7 (by kernel_rfl)
    have g8 : act.tmps[8]?.getD undef = undef := hI.kept 8 (by kernel_rfl)
    have g9 : act.tmps[9]?.getD undef = undef := hI.kept 9 (by kernel_rfl)
    have g10 := hI.kept 10 (by kernel_rfl)
    conv at g10 => rhs; whnf
    have g11 := hI.kept 11 (by kernel_rfl)
    conv at g11 => rhs; whnf
    have g28 : act.tmps[28]?.getD undef = undef := hI.kept 28 (by kernel_rfl)
    have g29 : act.tmps[29]?.getD undef = undef := hI.kept 29 (by kernel_rfl)
    have g30 : act.tmps[30]?.getD undef = undef := hI.kept 30 (by kernel_rfl)
    have g31 : act.tmps[31]?.getD undef = undef := hI.kept 31 (by kernel_rfl)
    have g32 : act.tmps[32]?.getD undef = undef := hI.kept 32 (by kernel_rfl)
    have g33 : act.tmps[33]?.getD undef = undef := hI.kept 33 (by kernel_rfl)
    have g34 : act.tmps[34]?.getD undef = undef := hI.kept 34 (by kernel_rfl)
    have g35 : act.tmps[35]?.getD undef = undef := hI.kept 35 (by kernel_rfl)
    have g36 : act.tmps[36]?.getD undef = undef := hI.kept 36 (by kernel_rfl)
    have g37 : act.tmps[37]?.getD undef = undef := hI.kept 37 (by kernel_rfl)
    have g38 : act.tmps[38]?.getD undef = undef := hI.kept 38 (by kernel_rfl)
    have g39 : act.tmps[39]?.getD undef = undef := hI.kept 39 (by kernel_rfl)
    have g40 : act.tmps[40]?.getD undef = undef := hI.kept 40 (by kernel_rfl)
    have g41 : act.tmps[41]?.getD undef = undef := hI.kept 41 (by kernel_rfl)
    have g42 : act.tmps[42]?.getD undef = undef := hI.kept 42 (by kernel_rfl)
    have g43 : act.tmps[43]?.getD undef = undef := hI.kept 43 (by kernel_rfl)
    have hsz : act.tmps.size = 44 := hI.size.trans (by kernel_rfl)
    have hd := hI.defers
    clear hI hall
    obtain ⟨tt, dd⟩ := act
    simp only at g0 g1 g2 g3 g4 g5 g6 g7 g8 g9 g10 g11 g12 g28 g29 g30 g31 g32 g33 g34 g35 g36 g37 g38 g39 g40 g41 g42 g43 hsz hd
    subst hd
    have hl : tt = #[tt[0]?.getD undef, tt[1]?.getD undef, tt[2]?.getD undef, tt[3]?.getD undef, tt[4]?.getD undef, tt[5]?.getD undef, tt[6]?.getD undef, tt[7]?.getD undef, tt[8]?.getD undef, tt[9]?.getD undef, tt[10]?.getD undef, tt[11]?.getD undef, tt[12]?.getD undef, tt[13]?.getD undef, tt[14]?.getD undef, tt[15]?.getD undef, tt[16]?.getD undef, tt[17]?.getD undef, tt[18]?.getD undef, tt[19]?.getD undef, tt[20]?.getD undef, tt[21]?.getD undef, tt[22]?.getD undef, tt[23]?.getD undef, tt[24]?.getD undef, tt[25]?.getD undef, tt[26]?.getD undef, tt[27]?.getD undef, tt[28]?.getD undef, tt[29]?.getD undef, tt[30]?.getD undef, tt[31]?.getD undef, tt[32]?.getD undef, tt[33]?.getD undef, tt[34]?.getD undef, tt[35]?.getD undef, tt[36]?.getD undef, tt[37]?.getD undef, tt[38]?.getD undef, tt[39]?.getD undef, tt[40]?.getD undef, tt[41]?.getD undef, tt[42]?.getD undef, tt[43]?.getD undef] := (arr_lit hsz).trans rfl
    rw [g0, g1, g2, g3, g4, g5, g6, g7, g8, g9, g10, g11, g12, g28, g29, g30, g31, g32, g33, g34, g35, g36, g37, g38, g39, g40, g41, g42, g43] at hl
    clear g0 g1 g2 g3 g4 g5 g6 g7 g8 g9 g10 g11 g12 g28 g29 g30 g31 g32 g33 g34 g35 g36 g37 g38 g39 g40 g41 g42 g43 hsz
    generalize tt[13]?.getD undef = y13 at hl
    generalize tt[14]?.getD undef = y14 at hl
    generalize tt[15]?.getD undef = y15 at hl
    generalize tt[16]?.getD undef = y16 at hl
    generalize tt[17]?.getD undef = y17 at hl
    generalize tt[18]?.getD undef = y18 at hl
    generalize tt[19]?.getD undef = y19 at hl
    generalize tt[20]?.getD undef = y20 at hl
    generalize tt[21]?.getD undef = y21 at hl
    generalize tt[22]?.getD undef = y22 at hl
    generalize tt[23]?.getD undef = y23 at hl
    generalize tt[24]?.getD undef = y24 at hl
    generalize tt[25]?.getD undef = y25 at hl
    generalize tt[26]?.getD undef = y26 at hl
    generalize tt[27]?.getD undef = y27 at hl
    subst hl
    have HS : Hid (∀ W1 W2 W3, canon .f32 (fopV .add .f32 u (fopV .mul .f32 t (fopV .quo .f32 r3 m W1) W2) W3) = stpS m d s p u f t) := Lib.hid (fun _ _ _ => by unfold stpS; exact canonF rfl (canonF rfl (canonF h3 rfl)))
    clear h3
    go_wp2
    go_ret2
    exact ⟨_, _, _, rfl, by unfold stpP; exact canonF rfl (canonF rfl (HS.out _ _ _)), HS.out _ _ _, by first | rfl | (simp only [World.drewN_drewN]; rfl)⟩
set_option maxHeartbeats 8000000 in
theorem s_StepTower (m d s p u f t : Nat) (w : World) :
    Calls Try.prog 21 #[.agg #[.float .f32 m, .float .f32 d, .float .f32 s], .float .f32 p, .float .f32 u, .float .f32 f, .float .f32 t] w fun e w' => ∃ r q, e = .returned (.tuple #[.float .f32 r, .float .f32 q, .bool (stpO m d s p u f t)]) ∧ canon .f32 r = stpR1 m d s p u f t ∧ canon .f32 q = stpR2 m d s p u f t ∧ Below w.heap.size w w' := by
  have HB : ∀ o1, Hid (Below w.heap.size w (w.alloc o1)) := fun _ => Lib.hid ((Below.refl _ _).alloc (Nat.le_refl _) _)
  have K0 : ∀ t, Hid (BlkL (w.alloc (.cells #[.float .f32 m, .float .f32 d, .float .f32 s] t)) w.heap.size [.float .f32 m, .float .f32 d, .float .f32 s]) := fun _ => Lib.hid (blkL_at w #[.float .f32 m, .float .f32 d, .float .f32 s] _ rfl)
  have k0 := fun t => ((K0 t).out.2 0 _ rfl).1
  have k1 := fun t => ((K0 t).out.2 1 _ rfl).1
  have k2 := fun t => ((K0 t).out.2 2 _ rfl).1
  go_enter Try.func21, Try.ntmps21
  go_wp2_with fail
  refine (s_l07Tower m d s _ _ (K0 _).out).mono ?_
  rintro e w' ⟨n0, rfl, rfl⟩
  cases h0 : towV m d s
  · go_wp2
    refine bodyPost_ret (results_tmp3 rfl _ _ _) rfl ?_
    have VN : stpC m d s p u f t = false := by unfold stpC movV; rw [h0]; first | rfl | simp
    exact ⟨_, _, by unfold stpO; rw [VN]; rfl, by unfold stpR1; rw [VN]; exact canon_zero, by unfold stpR2; rw [VN]; exact canon_zero, by repeat (first | exact (HB _).out | refine below_draws ?_ _)⟩
  · skip
    go_wp2_with fail
    refine (s_l01Finite _ _).mono ?_
    rintro e w' ⟨n1, rfl, rfl⟩
    cases h1 : fin .f32 p
    · go_wp2
      refine bodyPost_ret (results_tmp3 rfl _ _ _) rfl ?_
      have VN : stpC m d s p u f t = false := by unfold stpC movV; rw [h0, h1]; first | rfl | simp
      exact ⟨_, _, by unfold stpO; rw [VN]; rfl, by unfold stpR1; rw [VN]; exact canon_zero, by unfold stpR2; rw [VN]; exact canon_zero, by repeat (first | exact (HB _).out | refine below_draws ?_ _)⟩
    · skip
      go_wp2_with fail
      refine (s_l01Finite _ _).mono ?_
      rintro e w' ⟨n2, rfl, rfl⟩
      cases h2 : fin .f32 u
      · go_wp2
        refine bodyPost_ret (results_tmp3 rfl _ _ _) rfl ?_
        have VN : stpC m d s p u f t = false := by unfold stpC movV; rw [h0, h1, h2]; first | rfl | simp
        exact ⟨_, _, by unfold stpO; rw [VN]; rfl, by unfold stpR1; rw [VN]; exact canon_zero, by unfold stpR2; rw [VN]; exact canon_zero, by repeat (first | exact (HB _).out | refine below_draws ?_ _)⟩
      · skip
        go_wp2_with fail
        refine (s_l01Finite _ _).mono ?_
        rintro e w' ⟨n3, rfl, rfl⟩
        cases h3 : fin .f32 f
        · go_wp2
          refine bodyPost_ret (results_tmp3 rfl _ _ _) rfl ?_
          have VN : stpC m d s p u f t = false := by unfold stpC movV; rw [h0, h1, h2, h3]; first | rfl | simp
          exact ⟨_, _, by unfold stpO; rw [VN]; rfl, by unfold stpR1; rw [VN]; exact canon_zero, by unfold stpR2; rw [VN]; exact canon_zero, by repeat (first | exact (HB _).out | refine below_draws ?_ _)⟩
        · skip
          go_wp2_with fail
          refine (s_l02Above _ _).mono ?_
          rintro e w' ⟨n4, rfl, rfl⟩
          cases h4 : posi t
          · go_wp2
            refine bodyPost_ret (results_tmp3 rfl _ _ _) rfl ?_
            have VN : stpC m d s p u f t = false := by unfold stpC movV; rw [h0, h1, h2, h3, h4]; first | rfl | simp
            exact ⟨_, _, by unfold stpO; rw [VN]; rfl, by unfold stpR1; rw [VN]; exact canon_zero, by unfold stpR2; rw [VN]; exact canon_zero, by repeat (first | exact (HB _).out | refine below_draws ?_ _)⟩
          · skip
            have V : Hid (stpC m d s p u f t = true) := Lib.hid (by unfold stpC movV; rw [h0, h1, h2, h3, h4]; rfl)
            clear h0 h1 h2 h3 h4
            go_wp2_with fail
            refine (s_l07Step m d s p u f t _ _ (by repeat (first | exact (K0 _).out | refine BlkL.draws ?_ _))).mono ?_
            rintro e w' ⟨r, q, n5, rfl, hr, hq, rfl⟩
            go_wp2_with fail
            refine (s_l03Two _ _ _ _ _ hr hq).mono ?_
            rintro e w' ⟨r', q', n6, rfl, hr', hq', rfl⟩
            have HR := Lib.hid hr'
            have HQ := Lib.hid hq'
            clear hr hq hr' hq'
            go_wp2
            refine bodyPost_ret (results_tmp3 rfl _ _ _) rfl ?_
            exact ⟨_, _, by unfold stpO; rw [V.out]; rfl, by rw [HR.out]; unfold stpR1; rw [V.out]; rfl, by rw [HQ.out]; unfold stpR2; rw [V.out]; rfl, by repeat (first | exact (HB _).out | refine below_draws ?_ _)⟩
set_option maxHeartbeats 8000000 in
set_option maxRecDepth 100000 in
theorem i_EnergyOfTower (m d s p u : Nat) (w : World) :
    Calls Try.prog 24 #[.agg #[.float .f32 m, .float .f32 d, .float .f32 s], .float .f32 p, .float .f32 u] w fun e w' => ∃ r, e = .returned (.tuple #[.float .f32 r, .bool (enrO m d s p u)]) ∧ canon .f32 r = enrR m d s p u ∧ Below w.heap.size w w' := by
  have HB : ∀ o1, Hid (Below w.heap.size w (w.alloc o1)) := fun _ => Lib.hid ((Below.refl _ _).alloc (Nat.le_refl _) _)
  have K0 : ∀ t, Hid (BlkL (w.alloc (.cells #[.float .f32 m, .float .f32 d, .float .f32 s] t)) w.heap.size [.float .f32 m, .float .f32 d, .float .f32 s]) := fun _ => Lib.hid (blkL_at w #[.float .f32 m, .float .f32 d, .float .f32 s] _ rfl)
  have k0 := fun t => ((K0 t).out.2 0 _ rfl).1
  have k1 := fun t => ((K0 t).out.2 1 _ rfl).1
  have k2 := fun t => ((K0 t).out.2 2 _ rfl).1
  go_enter Try.func24, Try.ntmps24
  go_wp2_with fail
  refine (i_ValidTower m d s _).mono ?_
  rintro e w1 ⟨rfl, b1⟩
  have B1 : Hid (Below w.heap.size w w1) := Lib.hid (below_of (HB _).out (HB _).out.size b1)
  have K1 : Hid (BlkL w1 w.heap.size [.float .f32 m, .float .f32 d, .float .f32 s]) := Lib.hid ((K0 _).out.below b1)
  clear b1 k0 k1 k2
  obtain ⟨k0, k1, k2⟩ := K1.out.three
  cases h1 : towV m d s
  · go_wp2
    go_ret2
    exact ⟨_, by unfold enrO enrC; rw [h1]; rfl, by unfold enrR enrC; rw [h1]; exact canon_zero, B1.out⟩
  · have V := Lib.hid h1; clear h1
    go_wp2_with fail
    refine (i_notFinite _ _).mono ?_
    rintro e w2 ⟨n2, rfl, hw⟩
    have B2 : Hid (Below w.heap.size w w2) := Lib.hid (by rw [hw]; exact below_draws B1.out _)
    have K2 : Hid (BlkL w2 w.heap.size [.float .f32 m, .float .f32 d, .float .f32 s]) := Lib.hid (by rw [hw]; exact K1.out.draws _)
    clear hw k0 k1 k2 K1
    obtain ⟨k0, k1, k2⟩ := K2.out.three
    cases h2 : fin .f32 p
    · go_wp2
      go_ret2
      exact ⟨_, by unfold enrO enrC; rw [V.out, h2]; rfl, by unfold enrR enrC; rw [V.out, h2]; exact canon_zero, B2.out⟩
    · have V1 := Lib.hid h2; clear h2
      go_wp2_with fail
      refine (i_notFinite _ _).mono ?_
      rintro e w3 ⟨n3, rfl, hw⟩
      have B3 : Hid (Below w.heap.size w w3) := Lib.hid (by rw [hw]; exact below_draws B2.out _)
      have K3 : Hid (BlkL w3 w.heap.size [.float .f32 m, .float .f32 d, .float .f32 s]) := Lib.hid (by rw [hw]; exact K2.out.draws _)
      clear hw k0 k1 k2 K2
      obtain ⟨k0, k1, k2⟩ := K3.out.three
      cases h3 : fin .f32 u
      · go_wp2
        go_ret2
        exact ⟨_, by unfold enrO enrC; rw [V.out, V1.out, h3]; rfl, by unfold enrR enrC; rw [V.out, V1.out, h3]; exact canon_zero, B3.out⟩
      · have V2 := Lib.hid h3; clear h3
        have hdd : ∀ nn j, ∃ mm, (w3.drewN nn).drewN j = w3.drewN mm := fun nn j => ⟨nn + j, World.drewN_drewN ..⟩
        go_wp2_with fail
        refine wp_region_inv3 (fun iq v => match iq with
          | 0 => v = .pointer (some ⟨w.heap.size, 0, none⟩)
          | 1 => v = .float .f32 m
          | 2 => ∃ r, v = .float .f32 r ∧ canon .f32 r = fop .mul .f32 (canon .f32 1056964608) (canon .f32 m)
          | 3 => v = .float .f32 u
          | 4 => ∃ r, v = .float .f32 r ∧ canon .f32 r = fop .mul .f32 (fop .mul .f32 (canon .f32 1056964608) (canon .f32 m)) (canon .f32 u)
          | 5 => v = .float .f32 u
          | 6 => ∃ r, v = .float .f32 r ∧ canon .f32 r = fop .mul .f32 (fop .mul .f32 (fop .mul .f32 (canon .f32 1056964608) (canon .f32 m)) (canon .f32 u)) (canon .f32 u)
          | 7 => v = .pointer (some ⟨w.heap.size, 2, none⟩)
          | 8 => v = .float .f32 s
          | 9 => ∃ r, v = .float .f32 r ∧ canon .f32 r = fop .mul .f32 (canon .f32 1056964608) (canon .f32 s)
          | 10 => v = .float .f32 p
          | 11 => ∃ r, v = .float .f32 r ∧ canon .f32 r = fop .mul .f32 (fop .mul .f32 (canon .f32 1056964608) (canon .f32 s)) (canon .f32 p)
          | 12 => v = .float .f32 p
          | 13 => ∃ r, v = .float .f32 r ∧ canon .f32 r = fop .mul .f32 (fop .mul .f32 (fop .mul .f32 (canon .f32 1056964608) (canon .f32 s)) (canon .f32 p)) (canon .f32 p)
          | 14 => ∃ r, v = .float .f32 r ∧ canon .f32 r = fop .add .f32 (fop .mul .f32 (fop .mul .f32 (fop .mul .f32 (canon .f32 1056964608) (canon .f32 m)) (canon .f32 u)) (canon .f32 u)) (fop .mul .f32 (fop .mul .f32 (fop .mul .f32 (canon .f32 1056964608) (canon .f32 s)) (canon .f32 p)) (canon .f32 p))
          | 15 => ∃ r, v = .tuple #[.float .f32 r, .bool (fin .f32 (fop .add .f32 (fop .mul .f32 (fop .mul .f32 (fop .mul .f32 (canon .f32 1056964608) (canon .f32 m)) (canon .f32 u)) (canon .f32 u)) (fop .mul .f32 (fop .mul .f32 (fop .mul .f32 (canon .f32 1056964608) (canon .f32 s)) (canon .f32 p)) (canon .f32 p))))] ∧ canon .f32 r = onlyN (fop .add .f32 (fop .mul .f32 (fop .mul .f32 (fop .mul .f32 (canon .f32 1056964608) (canon .f32 m)) (canon .f32 u)) (canon .f32 u)) (fop .mul .f32 (fop .mul .f32 (fop .mul .f32 (canon .f32 1056964608) (canon .f32 s)) (canon .f32 p)) (canon .f32 p)))
          | 16 => ∃ r, v = .float .f32 r ∧ canon .f32 r = onlyN (fop .add .f32 (fop .mul .f32 (fop .mul .f32 (fop .mul .f32 (canon .f32 1056964608) (canon .f32 m)) (canon .f32 u)) (canon .f32 u)) (fop .mul .f32 (fop .mul .f32 (fop .mul .f32 (canon .f32 1056964608) (canon .f32 s)) (canon .f32 p)) (canon .f32 p)))
          | 17 => v = .bool (fin .f32 (fop .add .f32 (fop .mul .f32 (fop .mul .f32 (fop .mul .f32 (canon .f32 1056964608) (canon .f32 m)) (canon .f32 u)) (canon .f32 u)) (fop .mul .f32 (fop .mul .f32 (fop .mul .f32 (canon .f32 1056964608) (canon .f32 s)) (canon .f32 p)) (canon .f32 p))))
          | 18 => ∃ r, v = .float .f32 r ∧ canon .f32 r = onlyN (fop .add .f32 (fop .mul .f32 (fop .mul .f32 (fop .mul .f32 (canon .f32 1056964608) (canon .f32 m)) (canon .f32 u)) (canon .f32 u)) (fop .mul .f32 (fop .mul .f32 (fop .mul .f32 (canon .f32 1056964608) (canon .f32 s)) (canon .f32 p)) (canon .f32 p)))
          | 19 => v = .bool (fin .f32 (fop .add .f32 (fop .mul .f32 (fop .mul .f32 (fop .mul .f32 (canon .f32 1056964608) (canon .f32 m)) (canon .f32 u)) (canon .f32 u)) (fop .mul .f32 (fop .mul .f32 (fop .mul .f32 (canon .f32 1056964608) (canon .f32 s)) (canon .f32 p)) (canon .f32 p))))
          | _ => False) (fun _ ww => ∃ nn, ww = w3.drewN nn) (by kernel_rfl) (by kernel_rfl) ⟨1, rfl⟩ ?hop ?hend
        case hop =>
          intro q o hq listed act w3 hI hnot hcl hall
          obtain ⟨nn, rfl⟩ := hI.cls
          rcases q with _ | _ | _ | _ | _ | _ | _ | _ | _ | _ | _ | _ | _ | _ | _ | _ | _ | _ | _ | _ | q
          · simp at hq; subst hq
            have g3 : act.tmps[3]?.getD undef = .pointer (some ⟨w.heap.size, 0, none⟩) := hI.kept 3 (by kernel_rfl)
            clear hI hall hnot hcl
            refine .inl ⟨wanted_none rfl, ?_⟩
            unfold Oper.wp
            go_simp
            all_goals exact ⟨_, rfl, rfl, ⟨_, rfl⟩⟩
          · simp at hq; subst hq
            have g19 : act.tmps[19]?.getD undef = .pointer (some ⟨w.heap.size, 0, none⟩) := hI.has 0 19 rfl (hall ⟨0, .data⟩ (by simp) rfl)
            clear hI hall hnot hcl
            refine .inl ⟨wanted_none rfl, ?_⟩
            unfold Oper.wp
            go_simp
            all_goals exact ⟨_, rfl, rfl, ⟨_, rfl⟩⟩
          · simp at hq; subst hq
            have g20 : act.tmps[20]?.getD undef = .float .f32 m := hI.has 1 20 rfl (hall ⟨1, .data⟩ (by simp) rfl)
            clear hI hall hnot hcl
            refine .inl ⟨wanted_none rfl, ?_⟩
            unfold Oper.wp
            go_simp
            exact ⟨_, rfl, ⟨_, rfl, canonF rfl rfl⟩, by first | exact ⟨_, rfl⟩ | exact hdd _ _⟩
          · simp at hq; subst hq
            have g2 : act.tmps[2]?.getD undef = .float .f32 u := hI.kept 2 (by kernel_rfl)
            clear hI hall hnot hcl
            refine .inl ⟨wanted_none rfl, ?_⟩
            unfold Oper.wp
            go_simp
            all_goals exact ⟨_, rfl, rfl, ⟨_, rfl⟩⟩
          · simp at hq; subst hq
            obtain ⟨r2, g21, h2a⟩ := hI.has 2 21 rfl (hall ⟨2, .data⟩ (by simp) rfl)
            have g22 : act.tmps[22]?.getD undef = .float .f32 u := hI.has 3 22 rfl (hall ⟨3, .data⟩ (by simp) rfl)
            clear hI hall hnot hcl
            refine .inl ⟨wanted_none rfl, ?_⟩
            unfold Oper.wp
            go_simp
            exact ⟨_, rfl, ⟨_, rfl, canonF h2a rfl⟩, by first | exact ⟨_, rfl⟩ | exact hdd _ _⟩
          · simp at hq; subst hq
            have g2 : act.tmps[2]?.getD undef = .float .f32 u := hI.kept 2 (by kernel_rfl)
            clear hI hall hnot hcl
            refine .inl ⟨wanted_none rfl, ?_⟩
            unfold Oper.wp
            go_simp
            all_goals exact ⟨_, rfl, rfl, ⟨_, rfl⟩⟩
          · simp at hq; subst hq
            obtain ⟨r4, g23, h4a⟩ := hI.has 4 23 rfl (hall ⟨4, .data⟩ (by simp) rfl)
            have g24 : act.tmps[24]?.getD undef = .float .f32 u := hI.has 5 24 rfl (hall ⟨5, .data⟩ (by simp) rfl)
            clear hI hall hnot hcl
            refine .inl ⟨wanted_none rfl, ?_⟩
            unfold Oper.wp
            go_simp
            refine (i_mulNumbers _ _ _).mono ?_
            rintro e w4 ⟨rfl, rfl⟩
            exact ⟨_, rfl, ⟨_, rfl, canonF h4a rfl⟩, by first | exact ⟨_, rfl⟩ | exact hdd _ _⟩
          · simp at hq; subst hq
            have g3 : act.tmps[3]?.getD undef = .pointer (some ⟨w.heap.size, 0, none⟩) := hI.kept 3 (by kernel_rfl)
            clear hI hall hnot hcl
            refine .inl ⟨wanted_none rfl, ?_⟩
            unfold Oper.wp
            go_simp
            all_goals exact ⟨_, rfl, rfl, ⟨_, rfl⟩⟩
          · simp at hq; subst hq
            have g26 : act.tmps[26]?.getD undef = .pointer (some ⟨w.heap.size, 2, none⟩) := hI.has 7 26 rfl (hall ⟨7, .data⟩ (by simp) rfl)
            clear hI hall hnot hcl
            refine .inl ⟨wanted_none rfl, ?_⟩
            unfold Oper.wp
            go_simp
            all_goals exact ⟨_, rfl, rfl, ⟨_, rfl⟩⟩
          · simp at hq; subst hq
            have g27 : act.tmps[27]?.getD undef = .float .f32 s := hI.has 8 27 rfl (hall ⟨8, .data⟩ (by simp) rfl)
            clear hI hall hnot hcl
            refine .inl ⟨wanted_none rfl, ?_⟩
            unfold Oper.wp
            go_simp
            exact ⟨_, rfl, ⟨_, rfl, canonF rfl rfl⟩, by first | exact ⟨_, rfl⟩ | exact hdd _ _⟩
          · simp at hq; subst hq
            have g1 : act.tmps[1]?.getD undef = .float .f32 p := hI.kept 1 (by kernel_rfl)
            clear hI hall hnot hcl
            refine .inl ⟨wanted_none rfl, ?_⟩
            unfold Oper.wp
            go_simp
            all_goals exact ⟨_, rfl, rfl, ⟨_, rfl⟩⟩
          · simp at hq; subst hq
            obtain ⟨r9, g28, h9a⟩ := hI.has 9 28 rfl (hall ⟨9, .data⟩ (by simp) rfl)
            have g29 : act.tmps[29]?.getD undef = .float .f32 p := hI.has 10 29 rfl (hall ⟨10, .data⟩ (by simp) rfl)
            clear hI hall hnot hcl
            refine .inl ⟨wanted_none rfl, ?_⟩
            unfold Oper.wp
            go_simp
            exact ⟨_, rfl, ⟨_, rfl, canonF h9a rfl⟩, by first | exact ⟨_, rfl⟩ | exact hdd _ _⟩
          · simp at hq; subst hq
            have g1 : act.tmps[1]?.getD undef = .float .f32 p := hI.kept 1 (by kernel_rfl)
            clear hI hall hnot hcl
            refine .inl ⟨wanted_none rfl, ?_⟩
            unfold Oper.wp
            go_simp
            all_goals exact ⟨_, rfl, rfl, ⟨_, rfl⟩⟩
          · simp at hq; subst hq
            obtain ⟨r11, g30, h11a⟩ := hI.has 11 30 rfl (hall ⟨11, .data⟩ (by simp) rfl)
            have g31 : act.tmps[31]?.getD undef = .float .f32 p := hI.has 12 31 rfl (hall ⟨12, .data⟩ (by simp) rfl)
            clear hI hall hnot hcl
            refine .inl ⟨wanted_none rfl, ?_⟩
            unfold Oper.wp
            go_simp
            refine (i_mulNumbers _ _ _).mono ?_
            rintro e w4 ⟨rfl, rfl⟩
            exact ⟨_, rfl, ⟨_, rfl, canonF h11a rfl⟩, by first | exact ⟨_, rfl⟩ | exact hdd _ _⟩
          · simp at hq; subst hq
            obtain ⟨r6, g25, h6a⟩ := hI.has 6 25 rfl (hall ⟨6, .data⟩ (by simp) rfl)
            obtain ⟨r13, g32, h13a⟩ := hI.has 13 32 rfl (hall ⟨13, .data⟩ (by simp) rfl)
            clear hI hall hnot hcl
            refine .inl ⟨wanted_none rfl, ?_⟩
            unfold Oper.wp
            go_simp
            exact ⟨_, rfl, ⟨_, rfl, canonF h6a h13a⟩, by first | exact ⟨_, rfl⟩ | exact hdd _ _⟩
          · simp at hq; subst hq
            obtain ⟨r14, g33, h14a⟩ := hI.has 14 33 rfl (hall ⟨14, .data⟩ (by simp) rfl)
            clear hI hall hnot hcl
            refine .inl ⟨wanted_none rfl, ?_⟩
            unfold Oper.wp
            go_simp
            refine (i_onlyFiniteC _ (fop .add .f32 (fop .mul .f32 (fop .mul .f32 (fop .mul .f32 (canon .f32 1056964608) (canon .f32 m)) (canon .f32 u)) (canon .f32 u)) (fop .mul .f32 (fop .mul .f32 (fop .mul .f32 (canon .f32 1056964608) (canon .f32 s)) (canon .f32 p)) (canon .f32 p))) _ h14a).mono ?_
            rintro e w4 ⟨ro, no, rfl, hro, rfl⟩
            exact ⟨_, rfl, ⟨_, rfl, hro⟩, by first | exact ⟨_, rfl⟩ | exact hdd _ _⟩
          · simp at hq; subst hq
            obtain ⟨r15, g34, h15a⟩ := hI.has 15 34 rfl (hall ⟨15, .data⟩ (by simp) rfl)
            clear hI hall hnot hcl
            refine .inl ⟨wanted_none rfl, ?_⟩
            unfold Oper.wp
            go_simp
            exact ⟨_, rfl, ⟨_, rfl, h15a⟩, ⟨_, rfl⟩⟩
          · simp at hq; subst hq
            obtain ⟨r15, g34, h15a⟩ := hI.has 15 34 rfl (hall ⟨15, .data⟩ (by simp) rfl)
            clear hI hall hnot hcl
            refine .inl ⟨wanted_none rfl, ?_⟩
            unfold Oper.wp
            go_simp
            all_goals exact ⟨_, rfl, rfl, ⟨_, rfl⟩⟩
          · simp at hq; subst hq
            obtain ⟨r16, g35, h16a⟩ := hI.has 16 35 rfl (hall ⟨16, .data⟩ (by simp) rfl)
            clear hI hall hnot hcl
            refine .inl ⟨wanted_none rfl, ?_⟩
            unfold Oper.wp
            go_simp
            exact ⟨_, rfl, ⟨_, rfl, h16a⟩, ⟨_, rfl⟩⟩
          · simp at hq; subst hq
            have g36 : act.tmps[36]?.getD undef = .bool (fin .f32 (fop .add .f32 (fop .mul .f32 (fop .mul .f32 (fop .mul .f32 (canon .f32 1056964608) (canon .f32 m)) (canon .f32 u)) (canon .f32 u)) (fop .mul .f32 (fop .mul .f32 (fop .mul .f32 (canon .f32 1056964608) (canon .f32 s)) (canon .f32 p)) (canon .f32 p)))) := hI.has 17 36 rfl (hall ⟨17, .data⟩ (by simp) rfl)
            clear hI hall hnot hcl
            refine .inl ⟨wanted_none rfl, ?_⟩
            unfold Oper.wp
            go_simp
            all_goals exact ⟨_, rfl, rfl, ⟨_, rfl⟩⟩
          · simp at hq
        case hend =>
          intro listed act w3 hI hall
          obtain ⟨nn, rfl⟩ := hI.cls
          obtain ⟨rq, g6, hrq⟩ := hI.has 18 6 rfl (hall 18 (by decide))
          have g7 : act.tmps[7]?.getD undef = .bool (fin .f32 (fop .add .f32 (fop .mul .f32 (fop .mul .f32 (fop .mul .f32 (canon .f32 1056964608) (canon .f32 m)) (canon .f32 u)) (canon .f32 u)) (fop .mul .f32 (fop .mul .f32 (fop .mul .f32 (canon .f32 1056964608) (canon .f32 s)) (canon .f32 p)) (canon .f32 p)))) := hI.has 19 7 rfl (hall 19 (by decide))
          have hd := hI.defers
          clear hI hall
          go_wp2
          refine bodyPost_ret (v := .tuple #[.float .f32 rq, .bool (fin .f32 (enrV m s p u))]) (by simp [results, Try.results24, g6, g7, go_sem, enrV]) (by first | rfl | exact hd) ⟨rq, by unfold enrO enrC; rw [V.out, V1.out, V2.out]; rfl, ?_, by repeat (first | exact B3.out | refine below_draws ?_ _)⟩
          unfold enrR enrC
          rw [V.out, V1.out, V2.out]
          exact hrq
set_option maxHeartbeats 8000000 in
theorem s_EnergyOfTower (m d s p u : Nat) (w : World) :
    Calls Try.prog 23 #[.agg #[.float .f32 m, .float .f32 d, .float .f32 s], .float .f32 p, .float .f32 u] w fun e w' => ∃ r, e = .returned (.tuple #[.float .f32 r, .bool (enrO m d s p u)]) ∧ canon .f32 r = enrR m d s p u ∧ Below w.heap.size w w' := by
  have HB : ∀ o1, Hid (Below w.heap.size w (w.alloc o1)) := fun _ => Lib.hid ((Below.refl _ _).alloc (Nat.le_refl _) _)
  have K0 : ∀ t, Hid (BlkL (w.alloc (.cells #[.float .f32 m, .float .f32 d, .float .f32 s] t)) w.heap.size [.float .f32 m, .float .f32 d, .float .f32 s]) := fun _ => Lib.hid (blkL_at w #[.float .f32 m, .float .f32 d, .float .f32 s] _ rfl)
  have k0 := fun t => ((K0 t).out.2 0 _ rfl).1
  have k1 := fun t => ((K0 t).out.2 1 _ rfl).1
  have k2 := fun t => ((K0 t).out.2 2 _ rfl).1
  go_enter Try.func23, Try.ntmps23
  go_wp2_with fail
  refine (s_l07Tower m d s _ _ (K0 _).out).mono ?_
  rintro e w' ⟨n0, rfl, rfl⟩
  cases h0 : towV m d s
  · go_wp2
    go_ret2
    exact ⟨_, by unfold enrO enrC; rw [h0]; rfl, by unfold enrR enrC; rw [h0]; exact canon_zero, by repeat (first | exact (HB _).out | refine below_draws ?_ _)⟩
  · skip
    go_wp2_with fail
    refine (s_l01Finite _ _).mono ?_
    rintro e w' ⟨n1, rfl, rfl⟩
    cases h1 : fin .f32 p
    · go_wp2
      go_ret2
      exact ⟨_, by unfold enrO enrC; rw [h0, h1]; rfl, by unfold enrR enrC; rw [h0, h1]; exact canon_zero, by repeat (first | exact (HB _).out | refine below_draws ?_ _)⟩
    · skip
      go_wp2_with fail
      refine (s_l01Finite _ _).mono ?_
      rintro e w' ⟨n2, rfl, rfl⟩
      cases h2 : fin .f32 u
      · go_wp2
        go_ret2
        exact ⟨_, by unfold enrO enrC; rw [h0, h1, h2]; rfl, by unfold enrR enrC; rw [h0, h1, h2]; exact canon_zero, by repeat (first | exact (HB _).out | refine below_draws ?_ _)⟩
      · skip
        have V : Hid (enrC m d s p u = true) := Lib.hid (by unfold enrC; rw [h0, h1, h2]; rfl)
        clear h0 h1 h2
        go_wp2_with fail
        refine (s_l03NumberC _ (enrV m s p u) _ (by unfold enrV; exact canonF (canonF (canonF (canonF rfl rfl) rfl) rfl) (canonF (canonF (canonF rfl rfl) rfl) rfl))).mono ?_
        rintro e w' ⟨r', n3, rfl, hr', rfl⟩
        have HR := Lib.hid hr'; clear hr'
        go_wp2
        go_ret2
        exact ⟨_, by unfold enrO; rw [V.out]; rfl, by rw [HR.out]; unfold enrR; rw [V.out]; rfl, by repeat (first | exact (HB _).out | refine below_draws ?_ _)⟩
end Go.Proofs.Ytpchkedgjikpfaa

/- Towers: how fast they swing, their steps and their energy: both sides. No statement is proved here. -/
import Derived.Test.YtpmjikchlofebaaTow
namespace Go.Proofs.Ytpmjikchlofebaa
open Go Go.RowKit
set_option maxHeartbeats 4000000 in
theorem i_TowerRate (m d s : Nat) (w : World) :
    Calls Try.prog 112 #[.agg #[.float .f32 m, .float .f32 d, .float .f32 s]] w fun e w' => ∃ r, e = .returned (.tuple #[.float .f32 r, .bool (twrO m d s)]) ∧ canon .f32 r = twrR m d s ∧ Below w.heap.size w w' := by
  have HB : ∀ o1, Hid (Below w.heap.size w (w.alloc o1)) := fun _ => Lib.hid ((Below.refl _ _).alloc (Nat.le_refl _) _)
  have K0 : ∀ t, Hid (BlkL (w.alloc (.cells #[.float .f32 m, .float .f32 d, .float .f32 s] t)) w.heap.size [.float .f32 m, .float .f32 d, .float .f32 s]) := fun _ => Lib.hid (blkL_at w #[.float .f32 m, .float .f32 d, .float .f32 s] _ rfl)
  have k0 := fun t => ((K0 t).out.2 0 _ rfl).1
  have k1 := fun t => ((K0 t).out.2 1 _ rfl).1
  have k2 := fun t => ((K0 t).out.2 2 _ rfl).1
  go_enter Try.func112, Try.ntmps112
  go_wp2_with fail
  refine (i_ValidTower m d s _).mono ?_
  rintro e w1 ⟨rfl, b1⟩
  have B1 : Hid (Below w.heap.size w w1) := Lib.hid (below_of (HB _).out (HB _).out.size b1)
  have K1 : Hid (BlkL w1 w.heap.size [.float .f32 m, .float .f32 d, .float .f32 s]) := Lib.hid ((K0 _).out.below b1)
  clear b1 k0 k1 k2
  obtain ⟨k0, k1, k2⟩ := K1.out.three
  cases v : towV m d s
  · go_wp2
    go_ret2
    exact ⟨_, by unfold twrO; rw [v]; rfl, by unfold twrR; rw [v]; exact canon_zero, B1.out⟩
  · have V := Lib.hid v; clear v
    go_wp2_with fail
    refine (i_RootNumber _ _).mono ?_
    rintro e w' ⟨r, n, rfl, hr, rfl⟩
    have hq : ∀ W : World, canon .f32 (fopV .quo .f32 r 1086918619 W) = twrV m s := fun W => by unfold twrV; exact canonF (hr.trans (congrArg (fun z => canon .f32 (rootF z)) (canonF rfl rfl))) rfl
    have HQ := Lib.hid hq; clear hr hq
    go_wp2_with fail
    refine (i_onlyFiniteC _ (twrV m s) _ (HQ.out _)).mono ?_
    rintro e w' ⟨r', n3, rfl, hr', rfl⟩
    have HR := Lib.hid hr'; clear hr'
    go_wp2
    go_ret2
    exact ⟨_, by unfold twrO; rw [V.out]; rfl, by rw [HR.out]; unfold twrR; rw [V.out]; rfl, by repeat (first | exact B1.out | refine below_draws ?_ _)⟩
set_option maxHeartbeats 8000000 in
set_option maxRecDepth 100000 in
theorem s_l07Rate (m d s B : Nat) (w : World) (hk : BlkL w B [.float .f32 m, .float .f32 d, .float .f32 s]) :
    Calls Try.prog 111 #[.pointer (some ⟨B, 0, none⟩)] w fun e w' => ∃ r n, e = .returned (.float .f32 r) ∧ canon .f32 r = twrV m s ∧ w' = w.drewN n := by
  obtain ⟨k0, k1, k2⟩ := hk.three
  clear hk
  have hdd : ∀ nn j, ∃ mm, (w.drewN nn).drewN j = w.drewN mm := fun nn j => ⟨nn + j, World.drewN_drewN ..⟩
  go_enter Try.func111, Try.ntmps111
  go_wp2_with fail
  refine wp_region_inv3 (fun iq v => match iq with
    | 0 => v = .pointer (some ⟨B, 0, none⟩)
    | 1 => v = .pointer (some ⟨B, 0, none⟩)
    | 2 => v = .pointer (some ⟨B, 2, none⟩)
    | 3 => v = .float .f32 s
    | 4 => v = .pointer (some ⟨B, 0, none⟩)
    | 5 => v = .pointer (some ⟨B, 0, none⟩)
    | 6 => v = .pointer (some ⟨B, 0, none⟩)
    | 7 => v = .float .f32 m
    | 8 => ∃ r, v = .float .f32 r ∧ canon .f32 r = fop .quo .f32 (canon .f32 s) (canon .f32 m)
    | 9 => ∃ r, v = .float .f32 r ∧ canon .f32 r = canon .f32 (rootF (fop .quo .f32 (canon .f32 s) (canon .f32 m)))
    | 10 => ∃ r, v = .float .f32 r ∧ canon .f32 r = fop .quo .f32 (canon .f32 (rootF (fop .quo .f32 (canon .f32 s) (canon .f32 m)))) (canon .f32 1086918619)
    | 11 => ∃ r, v = .float .f32 r ∧ canon .f32 r = fop .quo .f32 (canon .f32 (rootF (fop .quo .f32 (canon .f32 s) (canon .f32 m)))) (canon .f32 1086918619)
    | _ => False) (fun _ ww => ∃ nn, ww = w.drewN nn) (by kernel_rfl) (by kernel_rfl) ⟨1, rfl⟩ ?hop ?hend
  case hop =>
    intro q o hq listed act w3 hI hnot hcl hall
    obtain ⟨nn, rfl⟩ := hI.cls
    rcases q with _ | _ | _ | _ | _ | _ | _ | _ | _ | _ | _ | _ | q
    · simp at hq; subst hq
      have g0 : act.tmps[0]?.getD undef = .pointer (some ⟨B, 0, none⟩) := hI.kept 0 (by kernel_rfl)
      clear hI hall hnot hcl
      refine .inl ⟨wanted_none rfl, ?_⟩
      unfold Oper.wp
      go_simp
      all_goals exact ⟨_, rfl, rfl, ⟨_, rfl⟩⟩
    · simp at hq; subst hq
      have g3 : act.tmps[3]?.getD undef = .pointer (some ⟨B, 0, none⟩) := hI.has 0 3 rfl (hall ⟨0, .data⟩ (by simp) rfl)
      clear hI hall hnot hcl
      refine .inl ⟨wanted_none rfl, ?_⟩
      unfold Oper.wp
      go_simp
      all_goals exact ⟨_, rfl, rfl, ⟨_, rfl⟩⟩
    · simp at hq; subst hq
      have g4 : act.tmps[4]?.getD undef = .pointer (some ⟨B, 0, none⟩) := hI.has 1 4 rfl (hall ⟨1, .data⟩ (by simp) rfl)
      clear hI hall hnot hcl
      refine .inl ⟨wanted_none rfl, ?_⟩
      unfold Oper.wp
      go_simp
      all_goals exact ⟨_, rfl, rfl, ⟨_, rfl⟩⟩
    · simp at hq; subst hq
      have g5 : act.tmps[5]?.getD undef = .pointer (some ⟨B, 2, none⟩) := hI.has 2 5 rfl (hall ⟨2, .data⟩ (by simp) rfl)
      clear hI hall hnot hcl
      refine .inl ⟨wanted_none rfl, ?_⟩
      unfold Oper.wp
      go_simp
      all_goals exact ⟨_, rfl, rfl, ⟨_, rfl⟩⟩
    · simp at hq; subst hq
      have g0 : act.tmps[0]?.getD undef = .pointer (some ⟨B, 0, none⟩) := hI.kept 0 (by kernel_rfl)
      clear hI hall hnot hcl
      refine .inl ⟨wanted_none rfl, ?_⟩
      unfold Oper.wp
      go_simp
      all_goals exact ⟨_, rfl, rfl, ⟨_, rfl⟩⟩
    · simp at hq; subst hq
      have g7 : act.tmps[7]?.getD undef = .pointer (some ⟨B, 0, none⟩) := hI.has 4 7 rfl (hall ⟨4, .data⟩ (by simp) rfl)
      clear hI hall hnot hcl
      refine .inl ⟨wanted_none rfl, ?_⟩
      unfold Oper.wp
      go_simp
      all_goals exact ⟨_, rfl, rfl, ⟨_, rfl⟩⟩
    · simp at hq; subst hq
      have g8 : act.tmps[8]?.getD undef = .pointer (some ⟨B, 0, none⟩) := hI.has 5 8 rfl (hall ⟨5, .data⟩ (by simp) rfl)
      clear hI hall hnot hcl
      refine .inl ⟨wanted_none rfl, ?_⟩
      unfold Oper.wp
      go_simp
      all_goals exact ⟨_, rfl, rfl, ⟨_, rfl⟩⟩
    · simp at hq; subst hq
      have g9 : act.tmps[9]?.getD undef = .pointer (some ⟨B, 0, none⟩) := hI.has 6 9 rfl (hall ⟨6, .data⟩ (by simp) rfl)
      clear hI hall hnot hcl
      refine .inl ⟨wanted_none rfl, ?_⟩
      unfold Oper.wp
      go_simp
      all_goals exact ⟨_, rfl, rfl, ⟨_, rfl⟩⟩
    · simp at hq; subst hq
      have g6 : act.tmps[6]?.getD undef = .float .f32 s := hI.has 3 6 rfl (hall ⟨3, .data⟩ (by simp) rfl)
      have g10 : act.tmps[10]?.getD undef = .float .f32 m := hI.has 7 10 rfl (hall ⟨7, .data⟩ (by simp) rfl)
      clear hI hall hnot hcl
      refine .inl ⟨wanted_none rfl, ?_⟩
      unfold Oper.wp
      go_simp
      exact ⟨_, rfl, ⟨_, rfl, canonF rfl rfl⟩, by first | exact ⟨_, rfl⟩ | exact hdd _ _⟩
    · simp at hq; subst hq
      obtain ⟨r8, g11, h8a⟩ := hI.has 8 11 rfl (hall ⟨8, .data⟩ (by simp) rfl)
      clear hI hall hnot hcl
      refine .inl ⟨wanted_none rfl, ?_⟩
      unfold Oper.wp
      go_simp
      refine (s_l01Sqrt _ _).mono ?_
      rintro e w4 ⟨rs, ns, rfl, hrs, rfl⟩
      exact ⟨_, rfl, ⟨_, rfl, hrs.trans (congrArg (fun z => canon .f32 (rootF z)) (h8a))⟩, by first | exact ⟨_, rfl⟩ | exact hdd _ _⟩
    · simp at hq; subst hq
      obtain ⟨r9, g12, h9a⟩ := hI.has 9 12 rfl (hall ⟨9, .data⟩ (by simp) rfl)
      clear hI hall hnot hcl
      refine .inl ⟨wanted_none rfl, ?_⟩
      unfold Oper.wp
      go_simp
      exact ⟨_, rfl, ⟨_, rfl, canonF h9a rfl⟩, by first | exact ⟨_, rfl⟩ | exact hdd _ _⟩
    · simp at hq; subst hq
      obtain ⟨r10, g13, h10a⟩ := hI.has 10 13 rfl (hall ⟨10, .data⟩ (by simp) rfl)
      clear hI hall hnot hcl
      refine .inl ⟨wanted_none rfl, ?_⟩
      unfold Oper.wp
      go_simp
      exact ⟨_, rfl, ⟨_, rfl, h10a⟩, ⟨_, rfl⟩⟩
    · simp at hq
  case hend =>
    intro listed act w3 hI hall
    obtain ⟨nn, rfl⟩ := hI.cls
    obtain ⟨rq, g2, hrq⟩ := hI.has 11 2 rfl (hall 11 (by decide))
    have hd := hI.defers
    clear hI hall
    go_wp2
    refine bodyPost_ret (v := .float .f32 rq) (by simp [results, Try.results111, g2, go_sem]) (by first | rfl | exact hd) ⟨rq, rfl, hrq, nn, rfl⟩
end Go.Proofs.Ytpmjikchlofebaa

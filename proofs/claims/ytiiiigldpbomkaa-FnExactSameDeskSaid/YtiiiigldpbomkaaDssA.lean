/- The parts of two desks compared, where they lie: air, farms. No statement is proved here. -/
import Derived.Test.YtiiiigldpbomkaaAirL
import Derived.Test.YtiiiigldpbomkaaSamF
namespace Go.Proofs.Ytiiiigldpbomkaa
open Go Go.RowKit
set_option maxHeartbeats 8000000 in
set_option maxRecDepth 100000 in
theorem s_l04SameD (d h s k d' h' s' k' B B' : Nat) (w : World) (hk : w.cell? ⟨B, 7, none⟩ = some (.float .f32 d) ∧ w.cell? ⟨B, 8, none⟩ = some (.float .f32 h) ∧ w.cell? ⟨B, 9, none⟩ = some (.float .f32 s) ∧ w.cell? ⟨B, 10, none⟩ = some (.float .f32 k)) (hk' : w.cell? ⟨B', 7, none⟩ = some (.float .f32 d') ∧ w.cell? ⟨B', 8, none⟩ = some (.float .f32 h') ∧ w.cell? ⟨B', 9, none⟩ = some (.float .f32 s') ∧ w.cell? ⟨B', 10, none⟩ = some (.float .f32 k'))
    (hw : ∀ x ∈ [d, h, s, k, d', h', s', k'], canon .f32 x < 4294967296) :
    Calls Try.prog 137 #[.pointer (some ⟨B, 7, none⟩), .pointer (some ⟨B', 7, none⟩)] w fun e w' => ∃ n, e = .returned (.bool (airS d h s k d' h' s' k')) ∧ w' = w.drewN n := by
  obtain ⟨k0, k1, k2, k3⟩ := hk
  obtain ⟨l0, l1, l2, l3⟩ := hk'
  have A0 := Lib.hid (hw d (by simp))
  have A1 := Lib.hid (hw h (by simp))
  have A2 := Lib.hid (hw s (by simp))
  have A3 := Lib.hid (hw k (by simp))
  have B0 := Lib.hid (hw d' (by simp))
  have B1 := Lib.hid (hw h' (by simp))
  have B2 := Lib.hid (hw s' (by simp))
  have B3 := Lib.hid (hw k' (by simp))
  clear hw
  cases p0 : decide (canon .f32 d = canon .f32 d')
  · have P0 := Lib.hid p0; clear p0
    go_enter Try.func137, Try.ntmps137
    go_wp2_with fail
    refine wp_region_inv3 (fun q0 v => match q0 with
      | 0 => v = .pointer (some ⟨B, 7, none⟩)
      | 1 => v = .pointer (some ⟨B, 7, none⟩)
      | 2 => v = .pointer (some ⟨B, 7, none⟩)
      | 3 => v = .float .f32 d
      | 4 => v = .pointer (some ⟨B', 7, none⟩)
      | 5 => v = .pointer (some ⟨B', 7, none⟩)
      | 6 => v = .pointer (some ⟨B', 7, none⟩)
      | 7 => v = .float .f32 d'
      | 8 => v = .bool false
      | 9 => v = .bool false
      | 10 => v = undef
      | 11 => v = undef
      | 12 => v = undef
      | 13 => v = undef
      | 14 => v = undef
      | 15 => v = undef
      | 16 => v = undef
      | 17 => v = undef
      | 18 => v = undef
      | 19 => v = .bool false
      | 20 => v = .bool false
      | 21 => v = undef
      | 22 => v = undef
      | 23 => v = undef
      | 24 => v = undef
      | 25 => v = undef
      | 26 => v = undef
      | 27 => v = undef
      | 28 => v = undef
      | 29 => v = undef
      | 30 => v = .bool false
      | 31 => v = .bool false
      | 32 => v = undef
      | 33 => v = undef
      | 34 => v = undef
      | 35 => v = undef
      | 36 => v = undef
      | 37 => v = undef
      | 38 => v = undef
      | 39 => v = undef
      | 40 => v = undef
      | 41 => v = .bool false
      | 42 => v = .bool false
      | _ => False) (fun _ ww => ∃ nn, ww = w.drewN nn) (by kernel_rfl) (by kernel_rfl) ⟨1, rfl⟩ ?hop ?hend
    case hop =>
      intro q o hq listed act w3 hI hnot hcl hall
      obtain ⟨nn, rfl⟩ := hI.cls
      rcases q with _ | _ | _ | _ | _ | _ | _ | _ | _ | _ | _ | _ | _ | _ | _ | _ | _ | _ | _ | _ | _ | _ | _ | _ | _ | _ | _ | _ | _ | _ | _ | _ | _ | _ | _ | _ | _ | _ | _ | _ | _ | _ | _ | q
      · simp at hq; subst hq
        have g0 : act.tmps[0]?.getD undef = .pointer (some ⟨B, 7, none⟩) := hI.kept 0 (by kernel_rfl)
        clear hI hall hnot hcl
        refine .inl ⟨wanted_none rfl, ?_⟩
        unfold Oper.wp
        go_simp
        all_goals exact ⟨_, rfl, rfl, ⟨_, rfl⟩⟩
      · simp at hq; subst hq
        have g5 : act.tmps[5]?.getD undef = .pointer (some ⟨B, 7, none⟩) := hI.has 0 5 rfl (hall ⟨0, .data⟩ (by simp) rfl)
        clear hI hall hnot hcl
        refine .inl ⟨wanted_none rfl, ?_⟩
        unfold Oper.wp
        go_simp
        all_goals exact ⟨_, rfl, rfl, ⟨_, rfl⟩⟩
      · simp at hq; subst hq
        have g6 : act.tmps[6]?.getD undef = .pointer (some ⟨B, 7, none⟩) := hI.has 1 6 rfl (hall ⟨1, .data⟩ (by simp) rfl)
        clear hI hall hnot hcl
        refine .inl ⟨wanted_none rfl, ?_⟩
        unfold Oper.wp
        go_simp
        all_goals exact ⟨_, rfl, rfl, ⟨_, rfl⟩⟩
      · simp at hq; subst hq
        have g7 : act.tmps[7]?.getD undef = .pointer (some ⟨B, 7, none⟩) := hI.has 2 7 rfl (hall ⟨2, .data⟩ (by simp) rfl)
        clear hI hall hnot hcl
        refine .inl ⟨wanted_none rfl, ?_⟩
        unfold Oper.wp
        go_simp
        all_goals exact ⟨_, rfl, rfl, ⟨_, rfl⟩⟩
      · simp at hq; subst hq
        have g1 : act.tmps[1]?.getD undef = .pointer (some ⟨B', 7, none⟩) := hI.kept 1 (by kernel_rfl)
        clear hI hall hnot hcl
        refine .inl ⟨wanted_none rfl, ?_⟩
        unfold Oper.wp
        go_simp
        all_goals exact ⟨_, rfl, rfl, ⟨_, rfl⟩⟩
      · simp at hq; subst hq
        have g9 : act.tmps[9]?.getD undef = .pointer (some ⟨B', 7, none⟩) := hI.has 4 9 rfl (hall ⟨4, .data⟩ (by simp) rfl)
        clear hI hall hnot hcl
        refine .inl ⟨wanted_none rfl, ?_⟩
        unfold Oper.wp
        go_simp
        all_goals exact ⟨_, rfl, rfl, ⟨_, rfl⟩⟩
      · simp at hq; subst hq
        have g10 : act.tmps[10]?.getD undef = .pointer (some ⟨B', 7, none⟩) := hI.has 5 10 rfl (hall ⟨5, .data⟩ (by simp) rfl)
        clear hI hall hnot hcl
        refine .inl ⟨wanted_none rfl, ?_⟩
        unfold Oper.wp
        go_simp
        all_goals exact ⟨_, rfl, rfl, ⟨_, rfl⟩⟩
      · simp at hq; subst hq
        have g11 : act.tmps[11]?.getD undef = .pointer (some ⟨B', 7, none⟩) := hI.has 6 11 rfl (hall ⟨6, .data⟩ (by simp) rfl)
        clear hI hall hnot hcl
        refine .inl ⟨wanted_none rfl, ?_⟩
        unfold Oper.wp
        go_simp
        all_goals exact ⟨_, rfl, rfl, ⟨_, rfl⟩⟩
      · simp at hq; subst hq
        have g8 : act.tmps[8]?.getD undef = .float .f32 d := hI.has 3 8 rfl (hall ⟨3, .data⟩ (by simp) rfl)
        have g12 : act.tmps[12]?.getD undef = .float .f32 d' := hI.has 7 12 rfl (hall ⟨7, .data⟩ (by simp) rfl)
        clear hI hall hnot hcl
        refine .inl ⟨wanted_none rfl, ?_⟩
        unfold Oper.wp
        go_simp
        refine (s_l01Same _ _ _ A0.out B0.out).mono ?_
        rintro e w4 ⟨rfl, rfl⟩
        rw [P0.out]
        exact ⟨_, rfl, rfl, ⟨_, rfl⟩⟩
      · simp at hq; subst hq
        have g13 : act.tmps[13]?.getD undef = .bool false := hI.has 8 13 rfl (hall ⟨8, .data⟩ (by simp) rfl)
        clear hI hall hnot hcl
        refine .inl ⟨wanted_none rfl, ?_⟩
        unfold Oper.wp
        go_simp
        all_goals exact ⟨_, rfl, rfl, ⟨_, rfl⟩⟩
      · simp at hq; subst hq
        have gg : act.tmps[14]?.getD undef = .bool false := hI.has 9 14 rfl (hall ⟨9, .guard⟩ (by simp) rfl)
        clear hI hall hnot hcl
        exact .inr ⟨(wanted_of rfl rfl gg).trans rfl, rfl, ⟨_, rfl⟩⟩
      · simp at hq; subst hq
        have gg : act.tmps[14]?.getD undef = .bool false := hI.has 9 14 rfl (hall ⟨9, .guard⟩ (by simp) rfl)
        clear hI hall hnot hcl
        exact .inr ⟨(wanted_of rfl rfl gg).trans rfl, rfl, ⟨_, rfl⟩⟩
      · simp at hq; subst hq
        have gg : act.tmps[14]?.getD undef = .bool false := hI.has 9 14 rfl (hall ⟨9, .guard⟩ (by simp) rfl)
        clear hI hall hnot hcl
        exact .inr ⟨(wanted_of rfl rfl gg).trans rfl, rfl, ⟨_, rfl⟩⟩
      · simp at hq; subst hq
        have gg : act.tmps[14]?.getD undef = .bool false := hI.has 9 14 rfl (hall ⟨9, .guard⟩ (by simp) rfl)
        clear hI hall hnot hcl
        exact .inr ⟨(wanted_of rfl rfl gg).trans rfl, rfl, ⟨_, rfl⟩⟩
      · simp at hq; subst hq
        have gg : act.tmps[14]?.getD undef = .bool false := hI.has 9 14 rfl (hall ⟨9, .guard⟩ (by simp) rfl)
        clear hI hall hnot hcl
        exact .inr ⟨(wanted_of rfl rfl gg).trans rfl, rfl, ⟨_, rfl⟩⟩
      · simp at hq; subst hq
        have gg : act.tmps[14]?.getD undef = .bool false := hI.has 9 14 rfl (hall ⟨9, .guard⟩ (by simp) rfl)
        clear hI hall hnot hcl
        exact .inr ⟨(wanted_of rfl rfl gg).trans rfl, rfl, ⟨_, rfl⟩⟩
      · simp at hq; subst hq
        have gg : act.tmps[14]?.getD undef = .bool false := hI.has 9 14 rfl (hall ⟨9, .guard⟩ (by simp) rfl)
        clear hI hall hnot hcl
        exact .inr ⟨(wanted_of rfl rfl gg).trans rfl, rfl, ⟨_, rfl⟩⟩
      · simp at hq; subst hq
        have gg : act.tmps[14]?.getD undef = .bool false := hI.has 9 14 rfl (hall ⟨9, .guard⟩ (by simp) rfl)
        clear hI hall hnot hcl
        exact .inr ⟨(wanted_of rfl rfl gg).trans rfl, rfl, ⟨_, rfl⟩⟩
      · simp at hq; subst hq
        have gg : act.tmps[14]?.getD undef = .bool false := hI.has 9 14 rfl (hall ⟨9, .guard⟩ (by simp) rfl)
        clear hI hall hnot hcl
        exact .inr ⟨(wanted_of rfl rfl gg).trans rfl, rfl, ⟨_, rfl⟩⟩
      · simp at hq; subst hq
        have g14 : act.tmps[14]?.getD undef = .bool false := hI.has 9 14 rfl (hall ⟨9, .data⟩ (by simp) rfl)
        have g23 : act.tmps[23]?.getD undef = undef := hI.has 18 23 rfl (hall ⟨18, .data⟩ (by simp) rfl)
        clear hI hall hnot hcl
        refine .inl ⟨wanted_none rfl, ?_⟩
        unfold Oper.wp
        go_simp
        all_goals exact ⟨_, rfl, rfl, ⟨_, rfl⟩⟩
      · simp at hq; subst hq
        have g24 : act.tmps[24]?.getD undef = .bool false := hI.has 19 24 rfl (hall ⟨19, .data⟩ (by simp) rfl)
        clear hI hall hnot hcl
        refine .inl ⟨wanted_none rfl, ?_⟩
        unfold Oper.wp
        go_simp
        all_goals exact ⟨_, rfl, rfl, ⟨_, rfl⟩⟩
      · simp at hq; subst hq
        have gg : act.tmps[25]?.getD undef = .bool false := hI.has 20 25 rfl (hall ⟨20, .guard⟩ (by simp) rfl)
        clear hI hall hnot hcl
        exact .inr ⟨(wanted_of rfl rfl gg).trans rfl, rfl, ⟨_, rfl⟩⟩
      · simp at hq; subst hq
        have gg : act.tmps[25]?.getD undef = .bool false := hI.has 20 25 rfl (hall ⟨20, .guard⟩ (by simp) rfl)
        clear hI hall hnot hcl
        exact .inr ⟨(wanted_of rfl rfl gg).trans rfl, rfl, ⟨_, rfl⟩⟩
      · simp at hq; subst hq
        have gg : act.tmps[25]?.getD undef = .bool false := hI.has 20 25 rfl (hall ⟨20, .guard⟩ (by simp) rfl)
        clear hI hall hnot hcl
        exact .inr ⟨(wanted_of rfl rfl gg).trans rfl, rfl, ⟨_, rfl⟩⟩
      · simp at hq; subst hq
        have gg : act.tmps[25]?.getD undef = .bool false := hI.has 20 25 rfl (hall ⟨20, .guard⟩ (by simp) rfl)
        clear hI hall hnot hcl
        exact .inr ⟨(wanted_of rfl rfl gg).trans rfl, rfl, ⟨_, rfl⟩⟩
      · simp at hq; subst hq
        have gg : act.tmps[25]?.getD undef = .bool false := hI.has 20 25 rfl (hall ⟨20, .guard⟩ (by simp) rfl)
        clear hI hall hnot hcl
        exact .inr ⟨(wanted_of rfl rfl gg).trans rfl, rfl, ⟨_, rfl⟩⟩
      · simp at hq; subst hq
        have gg : act.tmps[25]?.getD undef = .bool false := hI.has 20 25 rfl (hall ⟨20, .guard⟩ (by simp) rfl)
        clear hI hall hnot hcl
        exact .inr ⟨(wanted_of rfl rfl gg).trans rfl, rfl, ⟨_, rfl⟩⟩
      · simp at hq; subst hq
        have gg : act.tmps[25]?.getD undef = .bool false := hI.has 20 25 rfl (hall ⟨20, .guard⟩ (by simp) rfl)
        clear hI hall hnot hcl
        exact .inr ⟨(wanted_of rfl rfl gg).trans rfl, rfl, ⟨_, rfl⟩⟩
      · simp at hq; subst hq
        have gg : act.tmps[25]?.getD undef = .bool false := hI.has 20 25 rfl (hall ⟨20, .guard⟩ (by simp) rfl)
        clear hI hall hnot hcl
        exact .inr ⟨(wanted_of rfl rfl gg).trans rfl, rfl, ⟨_, rfl⟩⟩
      · simp at hq; subst hq
        have gg : act.tmps[25]?.getD undef = .bool false := hI.has 20 25 rfl (hall ⟨20, .guard⟩ (by simp) rfl)
        clear hI hall hnot hcl
        exact .inr ⟨(wanted_of rfl rfl gg).trans rfl, rfl, ⟨_, rfl⟩⟩
      · simp at hq; subst hq
        have g25 : act.tmps[25]?.getD undef = .bool false := hI.has 20 25 rfl (hall ⟨20, .data⟩ (by simp) rfl)
        have g34 : act.tmps[34]?.getD undef = undef := hI.has 29 34 rfl (hall ⟨29, .data⟩ (by simp) rfl)
        clear hI hall hnot hcl
        refine .inl ⟨wanted_none rfl, ?_⟩
        unfold Oper.wp
        go_simp
        all_goals exact ⟨_, rfl, rfl, ⟨_, rfl⟩⟩
      · simp at hq; subst hq
        have g35 : act.tmps[35]?.getD undef = .bool false := hI.has 30 35 rfl (hall ⟨30, .data⟩ (by simp) rfl)
        clear hI hall hnot hcl
        refine .inl ⟨wanted_none rfl, ?_⟩
        unfold Oper.wp
        go_simp
        all_goals exact ⟨_, rfl, rfl, ⟨_, rfl⟩⟩
      · simp at hq; subst hq
        have gg : act.tmps[36]?.getD undef = .bool false := hI.has 31 36 rfl (hall ⟨31, .guard⟩ (by simp) rfl)
        clear hI hall hnot hcl
        exact .inr ⟨(wanted_of rfl rfl gg).trans rfl, rfl, ⟨_, rfl⟩⟩
      · simp at hq; subst hq
        have gg : act.tmps[36]?.getD undef = .bool false := hI.has 31 36 rfl (hall ⟨31, .guard⟩ (by simp) rfl)
        clear hI hall hnot hcl
        exact .inr ⟨(wanted_of rfl rfl gg).trans rfl, rfl, ⟨_, rfl⟩⟩
      · simp at hq; subst hq
        have gg : act.tmps[36]?.getD undef = .bool false := hI.has 31 36 rfl (hall ⟨31, .guard⟩ (by simp) rfl)
        clear hI hall hnot hcl
        exact .inr ⟨(wanted_of rfl rfl gg).trans rfl, rfl, ⟨_, rfl⟩⟩
      · simp at hq; subst hq
        have gg : act.tmps[36]?.getD undef = .bool false := hI.has 31 36 rfl (hall ⟨31, .guard⟩ (by simp) rfl)
        clear hI hall hnot hcl
        exact .inr ⟨(wanted_of rfl rfl gg).trans rfl, rfl, ⟨_, rfl⟩⟩
      · simp at hq; subst hq
        have gg : act.tmps[36]?.getD undef = .bool false := hI.has 31 36 rfl (hall ⟨31, .guard⟩ (by simp) rfl)
        clear hI hall hnot hcl
        exact .inr ⟨(wanted_of rfl rfl gg).trans rfl, rfl, ⟨_, rfl⟩⟩
      · simp at hq; subst hq
        have gg : act.tmps[36]?.getD undef = .bool false := hI.has 31 36 rfl (hall ⟨31, .guard⟩ (by simp) rfl)
        clear hI hall hnot hcl
        exact .inr ⟨(wanted_of rfl rfl gg).trans rfl, rfl, ⟨_, rfl⟩⟩
      · simp at hq; subst hq
        have gg : act.tmps[36]?.getD undef = .bool false := hI.has 31 36 rfl (hall ⟨31, .guard⟩ (by simp) rfl)
        clear hI hall hnot hcl
        exact .inr ⟨(wanted_of rfl rfl gg).trans rfl, rfl, ⟨_, rfl⟩⟩
      · simp at hq; subst hq
        have gg : act.tmps[36]?.getD undef = .bool false := hI.has 31 36 rfl (hall ⟨31, .guard⟩ (by simp) rfl)
        clear hI hall hnot hcl
        exact .inr ⟨(wanted_of rfl rfl gg).trans rfl, rfl, ⟨_, rfl⟩⟩
      · simp at hq; subst hq
        have gg : act.tmps[36]?.getD undef = .bool false := hI.has 31 36 rfl (hall ⟨31, .guard⟩ (by simp) rfl)
        clear hI hall hnot hcl
        exact .inr ⟨(wanted_of rfl rfl gg).trans rfl, rfl, ⟨_, rfl⟩⟩
      · simp at hq; subst hq
        have g36 : act.tmps[36]?.getD undef = .bool false := hI.has 31 36 rfl (hall ⟨31, .data⟩ (by simp) rfl)
        have g45 : act.tmps[45]?.getD undef = undef := hI.has 40 45 rfl (hall ⟨40, .data⟩ (by simp) rfl)
        clear hI hall hnot hcl
        refine .inl ⟨wanted_none rfl, ?_⟩
        unfold Oper.wp
        go_simp
        all_goals exact ⟨_, rfl, rfl, ⟨_, rfl⟩⟩
      · simp at hq; subst hq
        have g46 : act.tmps[46]?.getD undef = .bool false := hI.has 41 46 rfl (hall ⟨41, .data⟩ (by simp) rfl)
        clear hI hall hnot hcl
        refine .inl ⟨wanted_none rfl, ?_⟩
        unfold Oper.wp
        go_simp
        all_goals exact ⟨_, rfl, rfl, ⟨_, rfl⟩⟩
      · simp at hq
    case hend =>
      intro listed act w3 hI hall
      obtain ⟨nn, rfl⟩ := hI.cls
      have g4 : act.tmps[4]?.getD undef = .bool false := hI.has 42 4 rfl (hall 42 (by decide))
      have hd := hI.defers
      clear hI hall
      go_wp2
      refine bodyPost_ret (v := .bool false) (by simp [results, Try.results137, g4, go_sem]) (by first | rfl | exact hd) ?_
      first | refine ⟨?_, nn, rfl⟩ | refine ⟨nn, ?_, rfl⟩
      unfold airS samN1
      rw [show decide _ = _ from P0.out]
      rfl
  · have P0 := Lib.hid p0; clear p0
    cases p1 : decide (canon .f32 h = canon .f32 h')
    · have P1 := Lib.hid p1; clear p1
      go_enter Try.func137, Try.ntmps137
      go_wp2_with fail
      refine wp_region_inv3 (fun q0 v => match q0 with
        | 0 => v = .pointer (some ⟨B, 7, none⟩)
        | 1 => v = .pointer (some ⟨B, 7, none⟩)
        | 2 => v = .pointer (some ⟨B, 7, none⟩)
        | 3 => v = .float .f32 d
        | 4 => v = .pointer (some ⟨B', 7, none⟩)
        | 5 => v = .pointer (some ⟨B', 7, none⟩)
        | 6 => v = .pointer (some ⟨B', 7, none⟩)
        | 7 => v = .float .f32 d'
        | 8 => v = .bool true
        | 9 => v = .bool true
        | 10 => v = .pointer (some ⟨B, 7, none⟩)
        | 11 => v = .pointer (some ⟨B, 7, none⟩)
        | 12 => v = .pointer (some ⟨B, 8, none⟩)
        | 13 => v = .float .f32 h
        | 14 => v = .pointer (some ⟨B', 7, none⟩)
        | 15 => v = .pointer (some ⟨B', 7, none⟩)
        | 16 => v = .pointer (some ⟨B', 8, none⟩)
        | 17 => v = .float .f32 h'
        | 18 => v = .bool false
        | 19 => v = .bool false
        | 20 => v = .bool false
        | 21 => v = undef
        | 22 => v = undef
        | 23 => v = undef
        | 24 => v = undef
        | 25 => v = undef
        | 26 => v = undef
        | 27 => v = undef
        | 28 => v = undef
        | 29 => v = undef
        | 30 => v = .bool false
        | 31 => v = .bool false
        | 32 => v = undef
        | 33 => v = undef
        | 34 => v = undef
        | 35 => v = undef
        | 36 => v = undef
        | 37 => v = undef
        | 38 => v = undef
        | 39 => v = undef
        | 40 => v = undef
        | 41 => v = .bool false
        | 42 => v = .bool false
        | _ => False) (fun _ ww => ∃ nn, ww = w.drewN nn) (by kernel_rfl) (by kernel_rfl) ⟨1, rfl⟩ ?hop ?hend
      case hop =>
        intro q o hq listed act w3 hI hnot hcl hall
        obtain ⟨nn, rfl⟩ := hI.cls
        rcases q with _ | _ | _ | _ | _ | _ | _ | _ | _ | _ | _ | _ | _ | _ | _ | _ | _ | _ | _ | _ | _ | _ | _ | _ | _ | _ | _ | _ | _ | _ | _ | _ | _ | _ | _ | _ | _ | _ | _ | _ | _ | _ | _ | q
        · simp at hq; subst hq
          have g0 : act.tmps[0]?.getD undef = .pointer (some ⟨B, 7, none⟩) := hI.kept 0 (by kernel_rfl)
          clear hI hall hnot hcl
          refine .inl ⟨wanted_none rfl, ?_⟩
          unfold Oper.wp
          go_simp
          all_goals exact ⟨_, rfl, rfl, ⟨_, rfl⟩⟩
        · simp at hq; subst hq
          have g5 : act.tmps[5]?.getD undef = .pointer (some ⟨B, 7, none⟩) := hI.has 0 5 rfl (hall ⟨0, .data⟩ (by simp) rfl)
          clear hI hall hnot hcl
          refine .inl ⟨wanted_none rfl, ?_⟩
          unfold Oper.wp
          go_simp
          all_goals exact ⟨_, rfl, rfl, ⟨_, rfl⟩⟩
        · simp at hq; subst hq
          have g6 : act.tmps[6]?.getD undef = .pointer (some ⟨B, 7, none⟩) := hI.has 1 6 rfl (hall ⟨1, .data⟩ (by simp) rfl)
          clear hI hall hnot hcl
          refine .inl ⟨wanted_none rfl, ?_⟩
          unfold Oper.wp
          go_simp
          all_goals exact ⟨_, rfl, rfl, ⟨_, rfl⟩⟩
        · simp at hq; subst hq
          have g7 : act.tmps[7]?.getD undef = .pointer (some ⟨B, 7, none⟩) := hI.has 2 7 rfl (hall ⟨2, .data⟩ (by simp) rfl)
          clear hI hall hnot hcl
          refine .inl ⟨wanted_none rfl, ?_⟩
          unfold Oper.wp
          go_simp
          all_goals exact ⟨_, rfl, rfl, ⟨_, rfl⟩⟩
        · simp at hq; subst hq
          have g1 : act.tmps[1]?.getD undef = .pointer (some ⟨B', 7, none⟩) := hI.kept 1 (by kernel_rfl)
          clear hI hall hnot hcl
          refine .inl ⟨wanted_none rfl, ?_⟩
          unfold Oper.wp
          go_simp
          all_goals exact ⟨_, rfl, rfl, ⟨_, rfl⟩⟩
        · simp at hq; subst hq
          have g9 : act.tmps[9]?.getD undef = .pointer (some ⟨B', 7, none⟩) := hI.has 4 9 rfl (hall ⟨4, .data⟩ (by simp) rfl)
          clear hI hall hnot hcl
          refine .inl ⟨wanted_none rfl, ?_⟩
          unfold Oper.wp
          go_simp
          all_goals exact ⟨_, rfl, rfl, ⟨_, rfl⟩⟩
        · simp at hq; subst hq
          have g10 : act.tmps[10]?.getD undef = .pointer (some ⟨B', 7, none⟩) := hI.has 5 10 rfl (hall ⟨5, .data⟩ (by simp) rfl)
          clear hI hall hnot hcl
          refine .inl ⟨wanted_none rfl, ?_⟩
          unfold Oper.wp
          go_simp
          all_goals exact ⟨_, rfl, rfl, ⟨_, rfl⟩⟩
        · simp at hq; subst hq
          have g11 : act.tmps[11]?.getD undef = .pointer (some ⟨B', 7, none⟩) := hI.has 6 11 rfl (hall ⟨6, .data⟩ (by simp) rfl)
          clear hI hall hnot hcl
          refine .inl ⟨wanted_none rfl, ?_⟩
          unfold Oper.wp
          go_simp
          all_goals exact ⟨_, rfl, rfl, ⟨_, rfl⟩⟩
        · simp at hq; subst hq
          have g8 : act.tmps[8]?.getD undef = .float .f32 d := hI.has 3 8 rfl (hall ⟨3, .data⟩ (by simp) rfl)
          have g12 : act.tmps[12]?.getD undef = .float .f32 d' := hI.has 7 12 rfl (hall ⟨7, .data⟩ (by simp) rfl)
          clear hI hall hnot hcl
          refine .inl ⟨wanted_none rfl, ?_⟩
          unfold Oper.wp
          go_simp
          refine (s_l01Same _ _ _ A0.out B0.out).mono ?_
          rintro e w4 ⟨rfl, rfl⟩
          rw [P0.out]
          exact ⟨_, rfl, rfl, ⟨_, rfl⟩⟩
        · simp at hq; subst hq
          have g13 : act.tmps[13]?.getD undef = .bool true := hI.has 8 13 rfl (hall ⟨8, .data⟩ (by simp) rfl)
          clear hI hall hnot hcl
          refine .inl ⟨wanted_none rfl, ?_⟩
          unfold Oper.wp
          go_simp
          all_goals exact ⟨_, rfl, rfl, ⟨_, rfl⟩⟩
        · simp at hq; subst hq
          have gg : act.tmps[14]?.getD undef = .bool true := hI.has 9 14 rfl (hall ⟨9, .guard⟩ (by simp) rfl)
          have g0 : act.tmps[0]?.getD undef = .pointer (some ⟨B, 7, none⟩) := hI.kept 0 (by kernel_rfl)
          clear hI hall hnot hcl
          refine .inl ⟨(wanted_of rfl rfl gg).trans rfl, ?_⟩
          clear gg
          unfold Oper.wp
          go_simp
          all_goals exact ⟨_, rfl, rfl, ⟨_, rfl⟩⟩
        · simp at hq; subst hq
          have gg : act.tmps[14]?.getD undef = .bool true := hI.has 9 14 rfl (hall ⟨9, .guard⟩ (by simp) rfl)
          have g15 : act.tmps[15]?.getD undef = .pointer (some ⟨B, 7, none⟩) := hI.has 10 15 rfl (hall ⟨10, .data⟩ (by simp) rfl)
          clear hI hall hnot hcl
          refine .inl ⟨(wanted_of rfl rfl gg).trans rfl, ?_⟩
          clear gg
          unfold Oper.wp
          go_simp
          all_goals exact ⟨_, rfl, rfl, ⟨_, rfl⟩⟩
        · simp at hq; subst hq
          have gg : act.tmps[14]?.getD undef = .bool true := hI.has 9 14 rfl (hall ⟨9, .guard⟩ (by simp) rfl)
          have g16 : act.tmps[16]?.getD undef = .pointer (some ⟨B, 7, none⟩) := hI.has 11 16 rfl (hall ⟨11, .data⟩ (by simp) rfl)
          clear hI hall hnot hcl
          refine .inl ⟨(wanted_of rfl rfl gg).trans rfl, ?_⟩
          clear gg
          unfold Oper.wp
          go_simp
          all_goals exact ⟨_, rfl, rfl, ⟨_, rfl⟩⟩
        · simp at hq; subst hq
          have gg : act.tmps[14]?.getD undef = .bool true := hI.has 9 14 rfl (hall ⟨9, .guard⟩ (by simp) rfl)
          have g17 : act.tmps[17]?.getD undef = .pointer (some ⟨B, 8, none⟩) := hI.has 12 17 rfl (hall ⟨12, .data⟩ (by simp) rfl)
          clear hI hall hnot hcl
          refine .inl ⟨(wanted_of rfl rfl gg).trans rfl, ?_⟩
          clear gg
          unfold Oper.wp
          go_simp
          all_goals exact ⟨_, rfl, rfl, ⟨_, rfl⟩⟩
        · simp at hq; subst hq
          have gg : act.tmps[14]?.getD undef = .bool true := hI.has 9 14 rfl (hall ⟨9, .guard⟩ (by simp) rfl)
          have g1 : act.tmps[1]?.getD undef = .pointer (some ⟨B', 7, none⟩) := hI.kept 1 (by kernel_rfl)
          clear hI hall hnot hcl
          refine .inl ⟨(wanted_of rfl rfl gg).trans rfl, ?_⟩
          clear gg
          unfold Oper.wp
          go_simp
          all_goals exact ⟨_, rfl, rfl, ⟨_, rfl⟩⟩
        · simp at hq; subst hq
          have gg : act.tmps[14]?.getD undef = .bool true := hI.has 9 14 rfl (hall ⟨9, .guard⟩ (by simp) rfl)
          have g19 : act.tmps[19]?.getD undef = .pointer (some ⟨B', 7, none⟩) := hI.has 14 19 rfl (hall ⟨14, .data⟩ (by simp) rfl)
          clear hI hall hnot hcl
          refine .inl ⟨(wanted_of rfl rfl gg).trans rfl, ?_⟩
          clear gg
          unfold Oper.wp
          go_simp
          all_goals exact ⟨_, rfl, rfl, ⟨_, rfl⟩⟩
        · simp at hq; subst hq
          have gg : act.tmps[14]?.getD undef = .bool true := hI.has 9 14 rfl (hall ⟨9, .guard⟩ (by simp) rfl)
          have g20 : act.tmps[20]?.getD undef = .pointer (some ⟨B', 7, none⟩) := hI.has 15 20 rfl (hall ⟨15, .data⟩ (by simp) rfl)
          clear hI hall hnot hcl
          refine .inl ⟨(wanted_of rfl rfl gg).trans rfl, ?_⟩
          clear gg
          unfold Oper.wp
          go_simp
          all_goals exact ⟨_, rfl, rfl, ⟨_, rfl⟩⟩
        · simp at hq; subst hq
          have gg : act.tmps[14]?.getD undef = .bool true := hI.has 9 14 rfl (hall ⟨9, .guard⟩ (by simp) rfl)
          have g21 : act.tmps[21]?.getD undef = .pointer (some ⟨B', 8, none⟩) := hI.has 16 21 rfl (hall ⟨16, .data⟩ (by simp) rfl)
          clear hI hall hnot hcl
          refine .inl ⟨(wanted_of rfl rfl gg).trans rfl, ?_⟩
          clear gg
          unfold Oper.wp
          go_simp
          all_goals exact ⟨_, rfl, rfl, ⟨_, rfl⟩⟩
        · simp at hq; subst hq
          have gg : act.tmps[14]?.getD undef = .bool true := hI.has 9 14 rfl (hall ⟨9, .guard⟩ (by simp) rfl)
          have g18 : act.tmps[18]?.getD undef = .float .f32 h := hI.has 13 18 rfl (hall ⟨13, .data⟩ (by simp) rfl)
          have g22 : act.tmps[22]?.getD undef = .float .f32 h' := hI.has 17 22 rfl (hall ⟨17, .data⟩ (by simp) rfl)
          clear hI hall hnot hcl
          refine .inl ⟨(wanted_of rfl rfl gg).trans rfl, ?_⟩
          clear gg
          unfold Oper.wp
          go_simp
          refine (s_l01Same _ _ _ A1.out B1.out).mono ?_
          rintro e w4 ⟨rfl, rfl⟩
          rw [P1.out]
          exact ⟨_, rfl, rfl, ⟨_, rfl⟩⟩
        · simp at hq; subst hq
          have g14 : act.tmps[14]?.getD undef = .bool true := hI.has 9 14 rfl (hall ⟨9, .data⟩ (by simp) rfl)
          have g23 : act.tmps[23]?.getD undef = .bool false := hI.has 18 23 rfl (hall ⟨18, .data⟩ (by simp) rfl)
          clear hI hall hnot hcl
          refine .inl ⟨wanted_none rfl, ?_⟩
          unfold Oper.wp
          go_simp
          all_goals exact ⟨_, rfl, rfl, ⟨_, rfl⟩⟩
        · simp at hq; subst hq
          have g24 : act.tmps[24]?.getD undef = .bool false := hI.has 19 24 rfl (hall ⟨19, .data⟩ (by simp) rfl)
          clear hI hall hnot hcl
          refine .inl ⟨wanted_none rfl, ?_⟩
          unfold Oper.wp
          go_simp
          all_goals exact ⟨_, rfl, rfl, ⟨_, rfl⟩⟩
        · simp at hq; subst hq
          have gg : act.tmps[25]?.getD undef = .bool false := hI.has 20 25 rfl (hall ⟨20, .guard⟩ (by simp) rfl)
          clear hI hall hnot hcl
          exact .inr ⟨(wanted_of rfl rfl gg).trans rfl, rfl, ⟨_, rfl⟩⟩
        · simp at hq; subst hq
          have gg : act.tmps[25]?.getD undef = .bool false := hI.has 20 25 rfl (hall ⟨20, .guard⟩ (by simp) rfl)
          clear hI hall hnot hcl
          exact .inr ⟨(wanted_of rfl rfl gg).trans rfl, rfl, ⟨_, rfl⟩⟩
        · simp at hq; subst hq
          have gg : act.tmps[25]?.getD undef = .bool false := hI.has 20 25 rfl (hall ⟨20, .guard⟩ (by simp) rfl)
          clear hI hall hnot hcl
          exact .inr ⟨(wanted_of rfl rfl gg).trans rfl, rfl, ⟨_, rfl⟩⟩
        · simp at hq; subst hq
          have gg : act.tmps[25]?.getD undef = .bool false := hI.has 20 25 rfl (hall ⟨20, .guard⟩ (by simp) rfl)
          clear hI hall hnot hcl
          exact .inr ⟨(wanted_of rfl rfl gg).trans rfl, rfl, ⟨_, rfl⟩⟩
        · simp at hq; subst hq
          have gg : act.tmps[25]?.getD undef = .bool false := hI.has 20 25 rfl (hall ⟨20, .guard⟩ (by simp) rfl)
          clear hI hall hnot hcl
          exact .inr ⟨(wanted_of rfl rfl gg).trans rfl, rfl, ⟨_, rfl⟩⟩
        · simp at hq; subst hq
          have gg : act.tmps[25]?.getD undef = .bool false := hI.has 20 25 rfl (hall ⟨20, .guard⟩ (by simp) rfl)
          clear hI hall hnot hcl
          exact .inr ⟨(wanted_of rfl rfl gg).trans rfl, rfl, ⟨_, rfl⟩⟩
        · simp at hq; subst hq
          have gg : act.tmps[25]?.getD undef = .bool false := hI.has 20 25 rfl (hall ⟨20, .guard⟩ (by simp) rfl)
          clear hI hall hnot hcl
          exact .inr ⟨(wanted_of rfl rfl gg).trans rfl, rfl, ⟨_, rfl⟩⟩
        · simp at hq; subst hq
          have gg : act.tmps[25]?.getD undef = .bool false := hI.has 20 25 rfl (hall ⟨20, .guard⟩ (by simp) rfl)
          clear hI hall hnot hcl
          exact .inr ⟨(wanted_of rfl rfl gg).trans rfl, rfl, ⟨_, rfl⟩⟩
        · simp at hq; subst hq
          have gg : act.tmps[25]?.getD undef = .bool false := hI.has 20 25 rfl (hall ⟨20, .guard⟩ (by simp) rfl)
          clear hI hall hnot hcl
          exact .inr ⟨(wanted_of rfl rfl gg).trans rfl, rfl, ⟨_, rfl⟩⟩
        · simp at hq; subst hq
          have g25 : act.tmps[25]?.getD undef = .bool false := hI.has 20 25 rfl (hall ⟨20, .data⟩ (by simp) rfl)
          have g34 : act.tmps[34]?.getD undef = undef := hI.has 29 34 rfl (hall ⟨29, .data⟩ (by simp) rfl)
          clear hI hall hnot hcl
          refine .inl ⟨wanted_none rfl, ?_⟩
          unfold Oper.wp
          go_simp
          all_goals exact ⟨_, rfl, rfl, ⟨_, rfl⟩⟩
        · simp at hq; subst hq
          have g35 : act.tmps[35]?.getD undef = .bool false := hI.has 30 35 rfl (hall ⟨30, .data⟩ (by simp) rfl)
          clear hI hall hnot hcl
          refine .inl ⟨wanted_none rfl, ?_⟩
          unfold Oper.wp
          go_simp
          all_goals exact ⟨_, rfl, rfl, ⟨_, rfl⟩⟩
        · simp at hq; subst hq
          have gg : act.tmps[36]?.getD undef = .bool false := hI.has 31 36 rfl (hall ⟨31, .guard⟩ (by simp) rfl)
          clear hI hall hnot hcl
          exact .inr ⟨(wanted_of rfl rfl gg).trans rfl, rfl, ⟨_, rfl⟩⟩
        · simp at hq; subst hq
          have gg : act.tmps[36]?.getD undef = .bool false := hI.has 31 36 rfl (hall ⟨31, .guard⟩ (by simp) rfl)
          clear hI hall hnot hcl
          exact .inr ⟨(wanted_of rfl rfl gg).trans rfl, rfl, ⟨_, rfl⟩⟩
        · simp at hq; subst hq
          have gg : act.tmps[36]?.getD undef = .bool false := hI.has 31 36 rfl (hall ⟨31, .guard⟩ (by simp) rfl)
          clear hI hall hnot hcl
          exact .inr ⟨(wanted_of rfl rfl gg).trans rfl, rfl, ⟨_, rfl⟩⟩
        · simp at hq; subst hq
          have gg : act.tmps[36]?.getD undef = .bool false := hI.has 31 36 rfl (hall ⟨31, .guard⟩ (by simp) rfl)
          clear hI hall hnot hcl
          exact .inr ⟨(wanted_of rfl rfl gg).trans rfl, rfl, ⟨_, rfl⟩⟩
        · simp at hq; subst hq
          have gg : act.tmps[36]?.getD undef = .bool false := hI.has 31 36 rfl (hall ⟨31, .guard⟩ (by simp) rfl)
          clear hI hall hnot hcl
          exact .inr ⟨(wanted_of rfl rfl gg).trans rfl, rfl, ⟨_, rfl⟩⟩
        · simp at hq; subst hq
          have gg : act.tmps[36]?.getD undef = .bool false := hI.has 31 36 rfl (hall ⟨31, .guard⟩ (by simp) rfl)
          clear hI hall hnot hcl
          exact .inr ⟨(wanted_of rfl rfl gg).trans rfl, rfl, ⟨_, rfl⟩⟩
        · simp at hq; subst hq
          have gg : act.tmps[36]?.getD undef = .bool false := hI.has 31 36 rfl (hall ⟨31, .guard⟩ (by simp) rfl)
          clear hI hall hnot hcl
          exact .inr ⟨(wanted_of rfl rfl gg).trans rfl, rfl, ⟨_, rfl⟩⟩
        · simp at hq; subst hq
          have gg : act.tmps[36]?.getD undef = .bool false := hI.has 31 36 rfl (hall ⟨31, .guard⟩ (by simp) rfl)
          clear hI hall hnot hcl
          exact .inr ⟨(wanted_of rfl rfl gg).trans rfl, rfl, ⟨_, rfl⟩⟩
        · simp at hq; subst hq
          have gg : act.tmps[36]?.getD undef = .bool false := hI.has 31 36 rfl (hall ⟨31, .guard⟩ (by simp) rfl)
          clear hI hall hnot hcl
          exact .inr ⟨(wanted_of rfl rfl gg).trans rfl, rfl, ⟨_, rfl⟩⟩
        · simp at hq; subst hq
          have g36 : act.tmps[36]?.getD undef = .bool false := hI.has 31 36 rfl (hall ⟨31, .data⟩ (by simp) rfl)
          have g45 : act.tmps[45]?.getD undef = undef := hI.has 40 45 rfl (hall ⟨40, .data⟩ (by simp) rfl)
          clear hI hall hnot hcl
          refine .inl ⟨wanted_none rfl, ?_⟩
          unfold Oper.wp
          go_simp
          all_goals exact ⟨_, rfl, rfl, ⟨_, rfl⟩⟩
        · simp at hq; subst hq
          have g46 : act.tmps[46]?.getD undef = .bool false := hI.has 41 46 rfl (hall ⟨41, .data⟩ (by simp) rfl)
          clear hI hall hnot hcl
          refine .inl ⟨wanted_none rfl, ?_⟩
          unfold Oper.wp
          go_simp
          all_goals exact ⟨_, rfl, rfl, ⟨_, rfl⟩⟩
        · simp at hq
      case hend =>
        intro listed act w3 hI hall
        obtain ⟨nn, rfl⟩ := hI.cls
        have g4 : act.tmps[4]?.getD undef = .bool false := hI.has 42 4 rfl (hall 42 (by decide))
        have hd := hI.defers
        clear hI hall
        go_wp2
        refine bodyPost_ret (v := .bool false) (by simp [results, Try.results137, g4, go_sem]) (by first | rfl | exact hd) ?_
        first | refine ⟨?_, nn, rfl⟩ | refine ⟨nn, ?_, rfl⟩
        unfold airS samN1
        rw [show decide _ = _ from P0.out, show decide _ = _ from P1.out]
        rfl
    · have P1 := Lib.hid p1; clear p1
      cases p2 : decide (canon .f32 s = canon .f32 s')
      · have P2 := Lib.hid p2; clear p2
        go_enter Try.func137, Try.ntmps137
        go_wp2_with fail
        refine wp_region_inv3 (fun q0 v => match q0 with
          | 0 => v = .pointer (some ⟨B, 7, none⟩)
          | 1 => v = .pointer (some ⟨B, 7, none⟩)
          | 2 => v = .pointer (some ⟨B, 7, none⟩)
          | 3 => v = .float .f32 d
          | 4 => v = .pointer (some ⟨B', 7, none⟩)
          | 5 => v = .pointer (some ⟨B', 7, none⟩)
          | 6 => v = .pointer (some ⟨B', 7, none⟩)
          | 7 => v = .float .f32 d'
          | 8 => v = .bool true
          | 9 => v = .bool true
          | 10 => v = .pointer (some ⟨B, 7, none⟩)
          | 11 => v = .pointer (some ⟨B, 7, none⟩)
          | 12 => v = .pointer (some ⟨B, 8, none⟩)
          | 13 => v = .float .f32 h
          | 14 => v = .pointer (some ⟨B', 7, none⟩)
          | 15 => v = .pointer (some ⟨B', 7, none⟩)
          | 16 => v = .pointer (some ⟨B', 8, none⟩)
          | 17 => v = .float .f32 h'
          | 18 => v = .bool true
          | 19 => v = .bool true
          | 20 => v = .bool true
          | 21 => v = .pointer (some ⟨B, 7, none⟩)
          | 22 => v = .pointer (some ⟨B, 7, none⟩)
          | 23 => v = .pointer (some ⟨B, 9, none⟩)
          | 24 => v = .float .f32 s
          | 25 => v = .pointer (some ⟨B', 7, none⟩)
          | 26 => v = .pointer (some ⟨B', 7, none⟩)
          | 27 => v = .pointer (some ⟨B', 9, none⟩)
          | 28 => v = .float .f32 s'
          | 29 => v = .bool false
          | 30 => v = .bool false
          | 31 => v = .bool false
          | 32 => v = undef
          | 33 => v = undef
          | 34 => v = undef
          | 35 => v = undef
          | 36 => v = undef
          | 37 => v = undef
          | 38 => v = undef
          | 39 => v = undef
          | 40 => v = undef
          | 41 => v = .bool false
          | 42 => v = .bool false
          | _ => False) (fun _ ww => ∃ nn, ww = w.drewN nn) (by kernel_rfl) (by kernel_rfl) ⟨1, rfl⟩ ?hop ?hend
        case hop =>
          intro q o hq listed act w3 hI hnot hcl hall
          obtain ⟨nn, rfl⟩ := hI.cls
          rcases q with _ | _ | _ | _ | _ | _ | _ | _ | _ | _ | _ | _ | _ | _ | _ | _ | _ | _ | _ | _ | _ | _ | _ | _ | _ | _ | _ | _ | _ | _ | _ | _ | _ | _ | _ | _ | _ | _ | _ | _ | _ | _ | _ | q
          · simp at hq; subst hq
            have g0 : act.tmps[0]?.getD undef = .pointer (some ⟨B, 7, none⟩) := hI.kept 0 (by kernel_rfl)
            clear hI hall hnot hcl
            refine .inl ⟨wanted_none rfl, ?_⟩
            unfold Oper.wp
            go_simp
            all_goals exact ⟨_, rfl, rfl, ⟨_, rfl⟩⟩
          · simp at hq; subst hq
            have g5 : act.tmps[5]?.getD undef = .pointer (some ⟨B, 7, none⟩) := hI.has 0 5 rfl (hall ⟨0, .data⟩ (by simp) rfl)
            clear hI hall hnot hcl
            refine .inl ⟨wanted_none rfl, ?_⟩
            unfold Oper.wp
            go_simp
            all_goals exact ⟨_, rfl, rfl, ⟨_, rfl⟩⟩
          · simp at hq; subst hq
            have g6 : act.tmps[6]?.getD undef = .pointer (some ⟨B, 7, none⟩) := hI.has 1 6 rfl (hall ⟨1, .data⟩ (by simp) rfl)
            clear hI hall hnot hcl
            refine .inl ⟨wanted_none rfl, ?_⟩
            unfold Oper.wp
            go_simp
            all_goals exact ⟨_, rfl, rfl, ⟨_, rfl⟩⟩
          · simp at hq; subst hq
            have g7 : act.tmps[7]?.getD undef = .pointer (some ⟨B, 7, none⟩) := hI.has 2 7 rfl (hall ⟨2, .data⟩ (by simp) rfl)
            clear hI hall hnot hcl
            refine .inl ⟨wanted_none rfl, ?_⟩
            unfold Oper.wp
            go_simp
            all_goals exact ⟨_, rfl, rfl, ⟨_, rfl⟩⟩
          · simp at hq; subst hq
            have g1 : act.tmps[1]?.getD undef = .pointer (some ⟨B', 7, none⟩) := hI.kept 1 (by kernel_rfl)
            clear hI hall hnot hcl
            refine .inl ⟨wanted_none rfl, ?_⟩
            unfold Oper.wp
            go_simp
            all_goals exact ⟨_, rfl, rfl, ⟨_, rfl⟩⟩
          · simp at hq; subst hq
            have g9 : act.tmps[9]?.getD undef = .pointer (some ⟨B', 7, none⟩) := hI.has 4 9 rfl (hall ⟨4, .data⟩ (by simp) rfl)
            clear hI hall hnot hcl
            refine .inl ⟨wanted_none rfl, ?_⟩
            unfold Oper.wp
            go_simp
            all_goals exact ⟨_, rfl, rfl, ⟨_, rfl⟩⟩
          · simp at hq; subst hq
            have g10 : act.tmps[10]?.getD undef = .pointer (some ⟨B', 7, none⟩) := hI.has 5 10 rfl (hall ⟨5, .data⟩ (by simp) rfl)
            clear hI hall hnot hcl
            refine .inl ⟨wanted_none rfl, ?_⟩
            unfold Oper.wp
            go_simp
            all_goals exact ⟨_, rfl, rfl, ⟨_, rfl⟩⟩
          · simp at hq; subst hq
            have g11 : act.tmps[11]?.getD undef = .pointer (some ⟨B', 7, none⟩) := hI.has 6 11 rfl (hall ⟨6, .data⟩ (by simp) rfl)
            clear hI hall hnot hcl
            refine .inl ⟨wanted_none rfl, ?_⟩
            unfold Oper.wp
            go_simp
            all_goals exact ⟨_, rfl, rfl, ⟨_, rfl⟩⟩
          · simp at hq; subst hq
            have g8 : act.tmps[8]?.getD undef = .float .f32 d := hI.has 3 8 rfl (hall ⟨3, .data⟩ (by simp) rfl)
            have g12 : act.tmps[12]?.getD undef = .float .f32 d' := hI.has 7 12 rfl (hall ⟨7, .data⟩ (by simp) rfl)
            clear hI hall hnot hcl
            refine .inl ⟨wanted_none rfl, ?_⟩
            unfold Oper.wp
            go_simp
            refine (s_l01Same _ _ _ A0.out B0.out).mono ?_
            rintro e w4 ⟨rfl, rfl⟩
            rw [P0.out]
            exact ⟨_, rfl, rfl, ⟨_, rfl⟩⟩
          · simp at hq; subst hq
            have g13 : act.tmps[13]?.getD undef = .bool true := hI.has 8 13 rfl (hall ⟨8, .data⟩ (by simp) rfl)
            clear hI hall hnot hcl
            refine .inl ⟨wanted_none rfl, ?_⟩
            unfold Oper.wp
            go_simp
            all_goals exact ⟨_, rfl, rfl, ⟨_, rfl⟩⟩
          · simp at hq; subst hq
            have gg : act.tmps[14]?.getD undef = .bool true := hI.has 9 14 rfl (hall ⟨9, .guard⟩ (by simp) rfl)
            have g0 : act.tmps[0]?.getD undef = .pointer (some ⟨B, 7, none⟩) := hI.kept 0 (by kernel_rfl)
            clear hI hall hnot hcl
            refine .inl ⟨(wanted_of rfl rfl gg).trans rfl, ?_⟩
            clear gg
            unfold Oper.wp
            go_simp
            all_goals exact ⟨_, rfl, rfl, ⟨_, rfl⟩⟩
          · simp at hq; subst hq
            have gg : act.tmps[14]?.getD undef = .bool true := hI.has 9 14 rfl (hall ⟨9, .guard⟩ (by simp) rfl)
            have g15 : act.tmps[15]?.getD undef = .pointer (some ⟨B, 7, none⟩) := hI.has 10 15 rfl (hall ⟨10, .data⟩ (by simp) rfl)
            clear hI hall hnot hcl
            refine .inl ⟨(wanted_of rfl rfl gg).trans rfl, ?_⟩
            clear gg
            unfold Oper.wp
            go_simp
            all_goals exact ⟨_, rfl, rfl, ⟨_, rfl⟩⟩
          · simp at hq; subst hq
            have gg : act.tmps[14]?.getD undef = .bool true := hI.has 9 14 rfl (hall ⟨9, .guard⟩ (by simp) rfl)
            have g16 : act.tmps[16]?.getD undef = .pointer (some ⟨B, 7, none⟩) := hI.has 11 16 rfl (hall ⟨11, .data⟩ (by simp) rfl)
            clear hI hall hnot hcl
            refine .inl ⟨(wanted_of rfl rfl gg).trans rfl, ?_⟩
            clear gg
            unfold Oper.wp
            go_simp
            all_goals exact ⟨_, rfl, rfl, ⟨_, rfl⟩⟩
          · simp at hq; subst hq
            have gg : act.tmps[14]?.getD undef = .bool true := hI.has 9 14 rfl (hall ⟨9, .guard⟩ (by simp) rfl)
            have g17 : act.tmps[17]?.getD undef = .pointer (some ⟨B, 8, none⟩) := hI.has 12 17 rfl (hall ⟨12, .data⟩ (by simp) rfl)
            clear hI hall hnot hcl
            refine .inl ⟨(wanted_of rfl rfl gg).trans rfl, ?_⟩
            clear gg
            unfold Oper.wp
            go_simp
            all_goals exact ⟨_, rfl, rfl, ⟨_, rfl⟩⟩
          · simp at hq; subst hq
            have gg : act.tmps[14]?.getD undef = .bool true := hI.has 9 14 rfl (hall ⟨9, .guard⟩ (by simp) rfl)
            have g1 : act.tmps[1]?.getD undef = .pointer (some ⟨B', 7, none⟩) := hI.kept 1 (by kernel_rfl)
            clear hI hall hnot hcl
            refine .inl ⟨(wanted_of rfl rfl gg).trans rfl, ?_⟩
            clear gg
            unfold Oper.wp
            go_simp
            all_goals exact ⟨_, rfl, rfl, ⟨_, rfl⟩⟩
          · simp at hq; subst hq
            have gg : act.tmps[14]?.getD undef = .bool true := hI.has 9 14 rfl (hall ⟨9, .guard⟩ (by simp) rfl)
            have g19 : act.tmps[19]?.getD undef = .pointer (some ⟨B', 7, none⟩) := hI.has 14 19 rfl (hall ⟨14, .data⟩ (by simp) rfl)
            clear hI hall hnot hcl
            refine .inl ⟨(wanted_of rfl rfl gg).trans rfl, ?_⟩
            clear gg
            unfold Oper.wp
            go_simp
            all_goals exact ⟨_, rfl, rfl, ⟨_, rfl⟩⟩
          · simp at hq; subst hq
            have gg : act.tmps[14]?.getD undef = .bool true := hI.has 9 14 rfl (hall ⟨9, .guard⟩ (by simp) rfl)
            have g20 : act.tmps[20]?.getD undef = .pointer (some ⟨B', 7, none⟩) := hI.has 15 20 rfl (hall ⟨15, .data⟩ (by simp) rfl)
            clear hI hall hnot hcl
            refine .inl ⟨(wanted_of rfl rfl gg).trans rfl, ?_⟩
            clear gg
            unfold Oper.wp
            go_simp
            all_goals exact ⟨_, rfl, rfl, ⟨_, rfl⟩⟩
          · simp at hq; subst hq
            have gg : act.tmps[14]?.getD undef = .bool true := hI.has 9 14 rfl (hall ⟨9, .guard⟩ (by simp) rfl)
            have g21 : act.tmps[21]?.getD undef = .pointer (some ⟨B', 8, none⟩) := hI.has 16 21 rfl (hall ⟨16, .data⟩ (by simp) rfl)
            clear hI hall hnot hcl
            refine .inl ⟨(wanted_of rfl rfl gg).trans rfl, ?_⟩
            clear gg
            unfold Oper.wp
            go_simp
            all_goals exact ⟨_, rfl, rfl, ⟨_, rfl⟩⟩
          · simp at hq; subst hq
            have gg : act.tmps[14]?.getD undef = .bool true := hI.has 9 14 rfl (hall ⟨9, .guard⟩ (by simp) rfl)
            have g18 : act.tmps[18]?.getD undef = .float .f32 h := hI.has 13 18 rfl (hall ⟨13, .data⟩ (by simp) rfl)
            have g22 : act.tmps[22]?.getD undef = .float .f32 h' := hI.has 17 22 rfl (hall ⟨17, .data⟩ (by simp) rfl)
            clear hI hall hnot hcl
            refine .inl ⟨(wanted_of rfl rfl gg).trans rfl, ?_⟩
            clear gg
            unfold Oper.wp
            go_simp
            refine (s_l01Same _ _ _ A1.out B1.out).mono ?_
            rintro e w4 ⟨rfl, rfl⟩
            rw [P1.out]
            exact ⟨_, rfl, rfl, ⟨_, rfl⟩⟩
          · simp at hq; subst hq
            have g14 : act.tmps[14]?.getD undef = .bool true := hI.has 9 14 rfl (hall ⟨9, .data⟩ (by simp) rfl)
            have g23 : act.tmps[23]?.getD undef = .bool true := hI.has 18 23 rfl (hall ⟨18, .data⟩ (by simp) rfl)
            clear hI hall hnot hcl
            refine .inl ⟨wanted_none rfl, ?_⟩
            unfold Oper.wp
            go_simp
            all_goals exact ⟨_, rfl, rfl, ⟨_, rfl⟩⟩
          · simp at hq; subst hq
            have g24 : act.tmps[24]?.getD undef = .bool true := hI.has 19 24 rfl (hall ⟨19, .data⟩ (by simp) rfl)
            clear hI hall hnot hcl
            refine .inl ⟨wanted_none rfl, ?_⟩
            unfold Oper.wp
            go_simp
            all_goals exact ⟨_, rfl, rfl, ⟨_, rfl⟩⟩
          · simp at hq; subst hq
            have gg : act.tmps[25]?.getD undef = .bool true := hI.has 20 25 rfl (hall ⟨20, .guard⟩ (by simp) rfl)
            have g0 : act.tmps[0]?.getD undef = .pointer (some ⟨B, 7, none⟩) := hI.kept 0 (by kernel_rfl)
            clear hI hall hnot hcl
            refine .inl ⟨(wanted_of rfl rfl gg).trans rfl, ?_⟩
            clear gg
            unfold Oper.wp
            go_simp
            all_goals exact ⟨_, rfl, rfl, ⟨_, rfl⟩⟩
          · simp at hq; subst hq
            have gg : act.tmps[25]?.getD undef = .bool true := hI.has 20 25 rfl (hall ⟨20, .guard⟩ (by simp) rfl)
            have g26 : act.tmps[26]?.getD undef = .pointer (some ⟨B, 7, none⟩) := hI.has 21 26 rfl (hall ⟨21, .data⟩ (by simp) rfl)
            clear hI hall hnot hcl
            refine .inl ⟨(wanted_of rfl rfl gg).trans rfl, ?_⟩
            clear gg
            unfold Oper.wp
            go_simp
            all_goals exact ⟨_, rfl, rfl, ⟨_, rfl⟩⟩
          · simp at hq; subst hq
            have gg : act.tmps[25]?.getD undef = .bool true := hI.has 20 25 rfl (hall ⟨20, .guard⟩ (by simp) rfl)
            have g27 : act.tmps[27]?.getD undef = .pointer (some ⟨B, 7, none⟩) := hI.has 22 27 rfl (hall ⟨22, .data⟩ (by simp) rfl)
            clear hI hall hnot hcl
            refine .inl ⟨(wanted_of rfl rfl gg).trans rfl, ?_⟩
            clear gg
            unfold Oper.wp
            go_simp
            all_goals exact ⟨_, rfl, rfl, ⟨_, rfl⟩⟩
          · simp at hq; subst hq
            have gg : act.tmps[25]?.getD undef = .bool true := hI.has 20 25 rfl (hall ⟨20, .guard⟩ (by simp) rfl)
            have g28 : act.tmps[28]?.getD undef = .pointer (some ⟨B, 9, none⟩) := hI.has 23 28 rfl (hall ⟨23, .data⟩ (by simp) rfl)
            clear hI hall hnot hcl
            refine .inl ⟨(wanted_of rfl rfl gg).trans rfl, ?_⟩
            clear gg
            unfold Oper.wp
            go_simp
            all_goals exact ⟨_, rfl, rfl, ⟨_, rfl⟩⟩
          · simp at hq; subst hq
            have gg : act.tmps[25]?.getD undef = .bool true := hI.has 20 25 rfl (hall ⟨20, .guard⟩ (by simp) rfl)
            have g1 : act.tmps[1]?.getD undef = .pointer (some ⟨B', 7, none⟩) := hI.kept 1 (by kernel_rfl)
            clear hI hall hnot hcl
            refine .inl ⟨(wanted_of rfl rfl gg).trans rfl, ?_⟩
            clear gg
            unfold Oper.wp
            go_simp
            all_goals exact ⟨_, rfl, rfl, ⟨_, rfl⟩⟩
          · simp at hq; subst hq
            have gg : act.tmps[25]?.getD undef = .bool true := hI.has 20 25 rfl (hall ⟨20, .guard⟩ (by simp) rfl)
            have g30 : act.tmps[30]?.getD undef = .pointer (some ⟨B', 7, none⟩) := hI.has 25 30 rfl (hall ⟨25, .data⟩ (by simp) rfl)
            clear hI hall hnot hcl
            refine .inl ⟨(wanted_of rfl rfl gg).trans rfl, ?_⟩
            clear gg
            unfold Oper.wp
            go_simp
            all_goals exact ⟨_, rfl, rfl, ⟨_, rfl⟩⟩
          · simp at hq; subst hq
            have gg : act.tmps[25]?.getD undef = .bool true := hI.has 20 25 rfl (hall ⟨20, .guard⟩ (by simp) rfl)
            have g31 : act.tmps[31]?.getD undef = .pointer (some ⟨B', 7, none⟩) := hI.has 26 31 rfl (hall ⟨26, .data⟩ (by simp) rfl)
            clear hI hall hnot hcl
            refine .inl ⟨(wanted_of rfl rfl gg).trans rfl, ?_⟩
            clear gg
            unfold Oper.wp
            go_simp
            all_goals exact ⟨_, rfl, rfl, ⟨_, rfl⟩⟩
          · simp at hq; subst hq
            have gg : act.tmps[25]?.getD undef = .bool true := hI.has 20 25 rfl (hall ⟨20, .guard⟩ (by simp) rfl)
            have g32 : act.tmps[32]?.getD undef = .pointer (some ⟨B', 9, none⟩) := hI.has 27 32 rfl (hall ⟨27, .data⟩ (by simp) rfl)
            clear hI hall hnot hcl
            refine .inl ⟨(wanted_of rfl rfl gg).trans rfl, ?_⟩
            clear gg
            unfold Oper.wp
            go_simp
            all_goals exact ⟨_, rfl, rfl, ⟨_, rfl⟩⟩
          · simp at hq; subst hq
            have gg : act.tmps[25]?.getD undef = .bool true := hI.has 20 25 rfl (hall ⟨20, .guard⟩ (by simp) rfl)
            have g29 : act.tmps[29]?.getD undef = .float .f32 s := hI.has 24 29 rfl (hall ⟨24, .data⟩ (by simp) rfl)
            have g33 : act.tmps[33]?.getD undef = .float .f32 s' := hI.has 28 33 rfl (hall ⟨28, .data⟩ (by simp) rfl)
            clear hI hall hnot hcl
            refine .inl ⟨(wanted_of rfl rfl gg).trans rfl, ?_⟩
            clear gg
            unfold Oper.wp
            go_simp
            refine (s_l01Same _ _ _ A2.out B2.out).mono ?_
            rintro e w4 ⟨rfl, rfl⟩
            rw [P2.out]
            exact ⟨_, rfl, rfl, ⟨_, rfl⟩⟩
          · simp at hq; subst hq
            have g25 : act.tmps[25]?.getD undef = .bool true := hI.has 20 25 rfl (hall ⟨20, .data⟩ (by simp) rfl)
            have g34 : act.tmps[34]?.getD undef = .bool false := hI.has 29 34 rfl (hall ⟨29, .data⟩ (by simp) rfl)
            clear hI hall hnot hcl
            refine .inl ⟨wanted_none rfl, ?_⟩
            unfold Oper.wp
            go_simp
            all_goals exact ⟨_, rfl, rfl, ⟨_, rfl⟩⟩
          · simp at hq; subst hq
            have g35 : act.tmps[35]?.getD undef = .bool false := hI.has 30 35 rfl (hall ⟨30, .data⟩ (by simp) rfl)
            clear hI hall hnot hcl
            refine .inl ⟨wanted_none rfl, ?_⟩
            unfold Oper.wp
            go_simp
            all_goals exact ⟨_, rfl, rfl, ⟨_, rfl⟩⟩
          · simp at hq; subst hq
            have gg : act.tmps[36]?.getD undef = .bool false := hI.has 31 36 rfl (hall ⟨31, .guard⟩ (by simp) rfl)
            clear hI hall hnot hcl
            exact .inr ⟨(wanted_of rfl rfl gg).trans rfl, rfl, ⟨_, rfl⟩⟩
          · simp at hq; subst hq
            have gg : act.tmps[36]?.getD undef = .bool false := hI.has 31 36 rfl (hall ⟨31, .guard⟩ (by simp) rfl)
            clear hI hall hnot hcl
            exact .inr ⟨(wanted_of rfl rfl gg).trans rfl, rfl, ⟨_, rfl⟩⟩
          · simp at hq; subst hq
            have gg : act.tmps[36]?.getD undef = .bool false := hI.has 31 36 rfl (hall ⟨31, .guard⟩ (by simp) rfl)
            clear hI hall hnot hcl
            exact .inr ⟨(wanted_of rfl rfl gg).trans rfl, rfl, ⟨_, rfl⟩⟩
          · simp at hq; subst hq
            have gg : act.tmps[36]?.getD undef = .bool false := hI.has 31 36 rfl (hall ⟨31, .guard⟩ (by simp) rfl)
            clear hI hall hnot hcl
            exact .inr ⟨(wanted_of rfl rfl gg).trans rfl, rfl, ⟨_, rfl⟩⟩
          · simp at hq; subst hq
            have gg : act.tmps[36]?.getD undef = .bool false := hI.has 31 36 rfl (hall ⟨31, .guard⟩ (by simp) rfl)
            clear hI hall hnot hcl
            exact .inr ⟨(wanted_of rfl rfl gg).trans rfl, rfl, ⟨_, rfl⟩⟩
          · simp at hq; subst hq
            have gg : act.tmps[36]?.getD undef = .bool false := hI.has 31 36 rfl (hall ⟨31, .guard⟩ (by simp) rfl)
            clear hI hall hnot hcl
            exact .inr ⟨(wanted_of rfl rfl gg).trans rfl, rfl, ⟨_, rfl⟩⟩
          · simp at hq; subst hq
            have gg : act.tmps[36]?.getD undef = .bool false := hI.has 31 36 rfl (hall ⟨31, .guard⟩ (by simp) rfl)
            clear hI hall hnot hcl
            exact .inr ⟨(wanted_of rfl rfl gg).trans rfl, rfl, ⟨_, rfl⟩⟩
          · simp at hq; subst hq
            have gg : act.tmps[36]?.getD undef = .bool false := hI.has 31 36 rfl (hall ⟨31, .guard⟩ (by simp) rfl)
            clear hI hall hnot hcl
            exact .inr ⟨(wanted_of rfl rfl gg).trans rfl, rfl, ⟨_, rfl⟩⟩
          · simp at hq; subst hq
            have gg : act.tmps[36]?.getD undef = .bool false := hI.has 31 36 rfl (hall ⟨31, .guard⟩ (by simp) rfl)
            clear hI hall hnot hcl
            exact .inr ⟨(wanted_of rfl rfl gg).trans rfl, rfl, ⟨_, rfl⟩⟩
          · simp at hq; subst hq
            have g36 : act.tmps[36]?.getD undef = .bool false := hI.has 31 36 rfl (hall ⟨31, .data⟩ (by simp) rfl)
            have g45 : act.tmps[45]?.getD undef = undef := hI.has 40 45 rfl (hall ⟨40, .data⟩ (by simp) rfl)
            clear hI hall hnot hcl
            refine .inl ⟨wanted_none rfl, ?_⟩
            unfold Oper.wp
            go_simp
            all_goals exact ⟨_, rfl, rfl, ⟨_, rfl⟩⟩
          · simp at hq; subst hq
            have g46 : act.tmps[46]?.getD undef = .bool false := hI.has 41 46 rfl (hall ⟨41, .data⟩ (by simp) rfl)
            clear hI hall hnot hcl
            refine .inl ⟨wanted_none rfl, ?_⟩
            unfold Oper.wp
            go_simp
            all_goals exact ⟨_, rfl, rfl, ⟨_, rfl⟩⟩
          · simp at hq
        case hend =>
          intro listed act w3 hI hall
          obtain ⟨nn, rfl⟩ := hI.cls
          have g4 : act.tmps[4]?.getD undef = .bool false := hI.has 42 4 rfl (hall 42 (by decide))
          have hd := hI.defers
          clear hI hall
          go_wp2
          refine bodyPost_ret (v := .bool false) (by simp [results, Try.results137, g4, go_sem]) (by first | rfl | exact hd) ?_
          first | refine ⟨?_, nn, rfl⟩ | refine ⟨nn, ?_, rfl⟩
          unfold airS samN1
          rw [show decide _ = _ from P0.out, show decide _ = _ from P1.out, show decide _ = _ from P2.out]
          rfl
      · have P2 := Lib.hid p2; clear p2
        go_enter Try.func137, Try.ntmps137
        go_wp2_with fail
        refine wp_region_inv3 (fun q0 v => match q0 with
          | 0 => v = .pointer (some ⟨B, 7, none⟩)
          | 1 => v = .pointer (some ⟨B, 7, none⟩)
          | 2 => v = .pointer (some ⟨B, 7, none⟩)
          | 3 => v = .float .f32 d
          | 4 => v = .pointer (some ⟨B', 7, none⟩)
          | 5 => v = .pointer (some ⟨B', 7, none⟩)
          | 6 => v = .pointer (some ⟨B', 7, none⟩)
          | 7 => v = .float .f32 d'
          | 8 => v = .bool true
          | 9 => v = .bool true
          | 10 => v = .pointer (some ⟨B, 7, none⟩)
          | 11 => v = .pointer (some ⟨B, 7, none⟩)
          | 12 => v = .pointer (some ⟨B, 8, none⟩)
          | 13 => v = .float .f32 h
          | 14 => v = .pointer (some ⟨B', 7, none⟩)
          | 15 => v = .pointer (some ⟨B', 7, none⟩)
          | 16 => v = .pointer (some ⟨B', 8, none⟩)
          | 17 => v = .float .f32 h'
          | 18 => v = .bool true
          | 19 => v = .bool true
          | 20 => v = .bool true
          | 21 => v = .pointer (some ⟨B, 7, none⟩)
          | 22 => v = .pointer (some ⟨B, 7, none⟩)
          | 23 => v = .pointer (some ⟨B, 9, none⟩)
          | 24 => v = .float .f32 s
          | 25 => v = .pointer (some ⟨B', 7, none⟩)
          | 26 => v = .pointer (some ⟨B', 7, none⟩)
          | 27 => v = .pointer (some ⟨B', 9, none⟩)
          | 28 => v = .float .f32 s'
          | 29 => v = .bool true
          | 30 => v = .bool true
          | 31 => v = .bool true
          | 32 => v = .pointer (some ⟨B, 7, none⟩)
          | 33 => v = .pointer (some ⟨B, 7, none⟩)
          | 34 => v = .pointer (some ⟨B, 10, none⟩)
          | 35 => v = .float .f32 k
          | 36 => v = .pointer (some ⟨B', 7, none⟩)
          | 37 => v = .pointer (some ⟨B', 7, none⟩)
          | 38 => v = .pointer (some ⟨B', 10, none⟩)
          | 39 => v = .float .f32 k'
          | 40 => v = .bool (decide (canon .f32 k = canon .f32 k'))
          | 41 => v = .bool (decide (canon .f32 k = canon .f32 k'))
          | 42 => v = .bool (decide (canon .f32 k = canon .f32 k'))
          | _ => False) (fun _ ww => ∃ nn, ww = w.drewN nn) (by kernel_rfl) (by kernel_rfl) ⟨1, rfl⟩ ?hop ?hend
        case hop =>
          intro q o hq listed act w3 hI hnot hcl hall
          obtain ⟨nn, rfl⟩ := hI.cls
          rcases q with _ | _ | _ | _ | _ | _ | _ | _ | _ | _ | _ | _ | _ | _ | _ | _ | _ | _ | _ | _ | _ | _ | _ | _ | _ | _ | _ | _ | _ | _ | _ | _ | _ | _ | _ | _ | _ | _ | _ | _ | _ | _ | _ | q
          · simp at hq; subst hq
            have g0 : act.tmps[0]?.getD undef = .pointer (some ⟨B, 7, none⟩) := hI.kept 0 (by kernel_rfl)
            clear hI hall hnot hcl
            refine .inl ⟨wanted_none rfl, ?_⟩
            unfold Oper.wp
            go_simp
            all_goals exact ⟨_, rfl, rfl, ⟨_, rfl⟩⟩
          · simp at hq; subst hq
            have g5 : act.tmps[5]?.getD undef = .pointer (some ⟨B, 7, none⟩) := hI.has 0 5 rfl (hall ⟨0, .data⟩ (by simp) rfl)
            clear hI hall hnot hcl
            refine .inl ⟨wanted_none rfl, ?_⟩
            unfold Oper.wp
            go_simp
            all_goals exact ⟨_, rfl, rfl, ⟨_, rfl⟩⟩
          · simp at hq; subst hq
            have g6 : act.tmps[6]?.getD undef = .pointer (some ⟨B, 7, none⟩) := hI.has 1 6 rfl (hall ⟨1, .data⟩ (by simp) rfl)
            clear hI hall hnot hcl
            refine .inl ⟨wanted_none rfl, ?_⟩
            unfold Oper.wp
            go_simp
            all_goals exact ⟨_, rfl, rfl, ⟨_, rfl⟩⟩
          · simp at hq; subst hq
            have g7 : act.tmps[7]?.getD undef = .pointer (some ⟨B, 7, none⟩) := hI.has 2 7 rfl (hall ⟨2, .data⟩ (by simp) rfl)
            clear hI hall hnot hcl
            refine .inl ⟨wanted_none rfl, ?_⟩
            unfold Oper.wp
            go_simp
            all_goals exact ⟨_, rfl, rfl, ⟨_, rfl⟩⟩
          · simp at hq; subst hq
            have g1 : act.tmps[1]?.getD undef = .pointer (some ⟨B', 7, none⟩) := hI.kept 1 (by kernel_rfl)
            clear hI hall hnot hcl
            refine .inl ⟨wanted_none rfl, ?_⟩
            unfold Oper.wp
            go_simp
            all_goals exact ⟨_, rfl, rfl, ⟨_, rfl⟩⟩
          · simp at hq; subst hq
            have g9 : act.tmps[9]?.getD undef = .pointer (some ⟨B', 7, none⟩) := hI.has 4 9 rfl (hall ⟨4, .data⟩ (by simp) rfl)
            clear hI hall hnot hcl
            refine .inl ⟨wanted_none rfl, ?_⟩
            unfold Oper.wp
            go_simp
            all_goals exact ⟨_, rfl, rfl, ⟨_, rfl⟩⟩
          · simp at hq; subst hq
            have g10 : act.tmps[10]?.getD undef = .pointer (some ⟨B', 7, none⟩) := hI.has 5 10 rfl (hall ⟨5, .data⟩ (by simp) rfl)
            clear hI hall hnot hcl
            refine .inl ⟨wanted_none rfl, ?_⟩
            unfold Oper.wp
            go_simp
            all_goals exact ⟨_, rfl, rfl, ⟨_, rfl⟩⟩
          · simp at hq; subst hq
            have g11 : act.tmps[11]?.getD undef = .pointer (some ⟨B', 7, none⟩) := hI.has 6 11 rfl (hall ⟨6, .data⟩ (by simp) rfl)
            clear hI hall hnot hcl
            refine .inl ⟨wanted_none rfl, ?_⟩
            unfold Oper.wp
            go_simp
            all_goals exact ⟨_, rfl, rfl, ⟨_, rfl⟩⟩
          · simp at hq; subst hq
            have g8 : act.tmps[8]?.getD undef = .float .f32 d := hI.has 3 8 rfl (hall ⟨3, .data⟩ (by simp) rfl)
            have g12 : act.tmps[12]?.getD undef = .float .f32 d' := hI.has 7 12 rfl (hall ⟨7, .data⟩ (by simp) rfl)
            clear hI hall hnot hcl
            refine .inl ⟨wanted_none rfl, ?_⟩
            unfold Oper.wp
            go_simp
            refine (s_l01Same _ _ _ A0.out B0.out).mono ?_
            rintro e w4 ⟨rfl, rfl⟩
            rw [P0.out]
            exact ⟨_, rfl, rfl, ⟨_, rfl⟩⟩
          · simp at hq; subst hq
            have g13 : act.tmps[13]?.getD undef = .bool true := hI.has 8 13 rfl (hall ⟨8, .data⟩ (by simp) rfl)
            clear hI hall hnot hcl
            refine .inl ⟨wanted_none rfl, ?_⟩
            unfold Oper.wp
            go_simp
            all_goals exact ⟨_, rfl, rfl, ⟨_, rfl⟩⟩
          · simp at hq; subst hq
            have gg : act.tmps[14]?.getD undef = .bool true := hI.has 9 14 rfl (hall ⟨9, .guard⟩ (by simp) rfl)
            have g0 : act.tmps[0]?.getD undef = .pointer (some ⟨B, 7, none⟩) := hI.kept 0 (by kernel_rfl)
            clear hI hall hnot hcl
            refine .inl ⟨(wanted_of rfl rfl gg).trans rfl, ?_⟩
            clear gg
            unfold Oper.wp
            go_simp
            all_goals exact ⟨_, rfl, rfl, ⟨_, rfl⟩⟩
          · simp at hq; subst hq
            have gg : act.tmps[14]?.getD undef = .bool true := hI.has 9 14 rfl (hall ⟨9, .guard⟩ (by simp) rfl)
            have g15 : act.tmps[15]?.getD undef = .pointer (some ⟨B, 7, none⟩) := hI.has 10 15 rfl (hall ⟨10, .data⟩ (by simp) rfl)
            clear hI hall hnot hcl
            refine .inl ⟨(wanted_of rfl rfl gg).trans rfl, ?_⟩
            clear gg
            unfold Oper.wp
            go_simp
            all_goals exact ⟨_, rfl, rfl, ⟨_, rfl⟩⟩
          · simp at hq; subst hq
            have gg : act.tmps[14]?.getD undef = .bool true := hI.has 9 14 rfl (hall ⟨9, .guard⟩ (by simp) rfl)
            have g16 : act.tmps[16]?.getD undef = .pointer (some ⟨B, 7, none⟩) := hI.has 11 16 rfl (hall ⟨11, .data⟩ (by simp) rfl)
            clear hI hall hnot hcl
            refine .inl ⟨(wanted_of rfl rfl gg).trans rfl, ?_⟩
            clear gg
            unfold Oper.wp
            go_simp
            all_goals exact ⟨_, rfl, rfl, ⟨_, rfl⟩⟩
          · simp at hq; subst hq
            have gg : act.tmps[14]?.getD undef = .bool true := hI.has 9 14 rfl (hall ⟨9, .guard⟩ (by simp) rfl)
            have g17 : act.tmps[17]?.getD undef = .pointer (some ⟨B, 8, none⟩) := hI.has 12 17 rfl (hall ⟨12, .data⟩ (by simp) rfl)
            clear hI hall hnot hcl
            refine .inl ⟨(wanted_of rfl rfl gg).trans rfl, ?_⟩
            clear gg
            unfold Oper.wp
            go_simp
            all_goals exact ⟨_, rfl, rfl, ⟨_, rfl⟩⟩
          · simp at hq; subst hq
            have gg : act.tmps[14]?.getD undef = .bool true := hI.has 9 14 rfl (hall ⟨9, .guard⟩ (by simp) rfl)
            have g1 : act.tmps[1]?.getD undef = .pointer (some ⟨B', 7, none⟩) := hI.kept 1 (by kernel_rfl)
            clear hI hall hnot hcl
            refine .inl ⟨(wanted_of rfl rfl gg).trans rfl, ?_⟩
            clear gg
            unfold Oper.wp
            go_simp
            all_goals exact ⟨_, rfl, rfl, ⟨_, rfl⟩⟩
          · simp at hq; subst hq
            have gg : act.tmps[14]?.getD undef = .bool true := hI.has 9 14 rfl (hall ⟨9, .guard⟩ (by simp) rfl)
            have g19 : act.tmps[19]?.getD undef = .pointer (some ⟨B', 7, none⟩) := hI.has 14 19 rfl (hall ⟨14, .data⟩ (by simp) rfl)
            clear hI hall hnot hcl
            refine .inl ⟨(wanted_of rfl rfl gg).trans rfl, ?_⟩
            clear gg
            unfold Oper.wp
            go_simp
            all_goals exact ⟨_, rfl, rfl, ⟨_, rfl⟩⟩
          · simp at hq; subst hq
            have gg : act.tmps[14]?.getD undef = .bool true := hI.has 9 14 rfl (hall ⟨9, .guard⟩ (by simp) rfl)
            have g20 : act.tmps[20]?.getD undef = .pointer (some ⟨B', 7, none⟩) := hI.has 15 20 rfl (hall ⟨15, .data⟩ (by simp) rfl)
            clear hI hall hnot hcl
            refine .inl ⟨(wanted_of rfl rfl gg).trans rfl, ?_⟩
            clear gg
            unfold Oper.wp
            go_simp
            all_goals exact ⟨_, rfl, rfl, ⟨_, rfl⟩⟩
          · simp at hq; subst hq
            have gg : act.tmps[14]?.getD undef = .bool true := hI.has 9 14 rfl (hall ⟨9, .guard⟩ (by simp) rfl)
            have g21 : act.tmps[21]?.getD undef = .pointer (some ⟨B', 8, none⟩) := hI.has 16 21 rfl (hall ⟨16, .data⟩ (by simp) rfl)
            clear hI hall hnot hcl
            refine .inl ⟨(wanted_of rfl rfl gg).trans rfl, ?_⟩
            clear gg
            unfold Oper.wp
            go_simp
            all_goals exact ⟨_, rfl, rfl, ⟨_, rfl⟩⟩
          · simp at hq; subst hq
            have gg : act.tmps[14]?.getD undef = .bool true := hI.has 9 14 rfl (hall ⟨9, .guard⟩ (by simp) rfl)
            have g18 : act.tmps[18]?.getD undef = .float .f32 h := hI.has 13 18 rfl (hall ⟨13, .data⟩ (by simp) rfl)
            have g22 : act.tmps[22]?.getD undef = .float .f32 h' := hI.has 17 22 rfl (hall ⟨17, .data⟩ (by simp) rfl)
            clear hI hall hnot hcl
            refine .inl ⟨(wanted_of rfl rfl gg).trans rfl, ?_⟩
            clear gg
            unfold Oper.wp
            go_simp
            refine (s_l01Same _ _ _ A1.out B1.out).mono ?_
            rintro e w4 ⟨rfl, rfl⟩
            rw [P1.out]
            exact ⟨_, rfl, rfl, ⟨_, rfl⟩⟩
          · simp at hq; subst hq
            have g14 : act.tmps[14]?.getD undef = .bool true := hI.has 9 14 rfl (hall ⟨9, .data⟩ (by simp) rfl)
            have g23 : act.tmps[23]?.getD undef = .bool true := hI.has 18 23 rfl (hall ⟨18, .data⟩ (by simp) rfl)
            clear hI hall hnot hcl
            refine .inl ⟨wanted_none rfl, ?_⟩
            unfold Oper.wp
            go_simp
            all_goals exact ⟨_, rfl, rfl, ⟨_, rfl⟩⟩
          · simp at hq; subst hq
            have g24 : act.tmps[24]?.getD undef = .bool true := hI.has 19 24 rfl (hall ⟨19, .data⟩ (by simp) rfl)
            clear hI hall hnot hcl
            refine .inl ⟨wanted_none rfl, ?_⟩
            unfold Oper.wp
            go_simp
            all_goals exact ⟨_, rfl, rfl, ⟨_, rfl⟩⟩
          · simp at hq; subst hq
            have gg : act.tmps[25]?.getD undef = .bool true := hI.has 20 25 rfl (hall ⟨20, .guard⟩ (by simp) rfl)
            have g0 : act.tmps[0]?.getD undef = .pointer (some ⟨B, 7, none⟩) := hI.kept 0 (by kernel_rfl)
            clear hI hall hnot hcl
            refine .inl ⟨(wanted_of rfl rfl gg).trans rfl, ?_⟩
            clear gg
            unfold Oper.wp
            go_simp
            all_goals exact ⟨_, rfl, rfl, ⟨_, rfl⟩⟩
          · simp at hq; subst hq
            have gg : act.tmps[25]?.getD undef = .bool true := hI.has 20 25 rfl (hall ⟨20, .guard⟩ (by simp) rfl)
            have g26 : act.tmps[26]?.getD undef = .pointer (some ⟨B, 7, none⟩) := hI.has 21 26 rfl (hall ⟨21, .data⟩ (by simp) rfl)
            clear hI hall hnot hcl
            refine .inl ⟨(wanted_of rfl rfl gg).trans rfl, ?_⟩
            clear gg
            unfold Oper.wp
            go_simp
            all_goals exact ⟨_, rfl, rfl, ⟨_, rfl⟩⟩
          · simp at hq; subst hq
            have gg : act.tmps[25]?.getD undef = .bool true := hI.has 20 25 rfl (hall ⟨20, .guard⟩ (by simp) rfl)
            have g27 : act.tmps[27]?.getD undef = .pointer (some ⟨B, 7, none⟩) := hI.has 22 27 rfl (hall ⟨22, .data⟩ (by simp) rfl)
            clear hI hall hnot hcl
            refine .inl ⟨(wanted_of rfl rfl gg).trans rfl, ?_⟩
            clear gg
            unfold Oper.wp
            go_simp
            all_goals exact ⟨_, rfl, rfl, ⟨_, rfl⟩⟩
          · simp at hq; subst hq
            have gg : act.tmps[25]?.getD undef = .bool true := hI.has 20 25 rfl (hall ⟨20, .guard⟩ (by simp) rfl)
            have g28 : act.tmps[28]?.getD undef = .pointer (some ⟨B, 9, none⟩) := hI.has 23 28 rfl (hall ⟨23, .data⟩ (by simp) rfl)
            clear hI hall hnot hcl
            refine .inl ⟨(wanted_of rfl rfl gg).trans rfl, ?_⟩
            clear gg
            unfold Oper.wp
            go_simp
            all_goals exact ⟨_, rfl, rfl, ⟨_, rfl⟩⟩
          · simp at hq; subst hq
            have gg : act.tmps[25]?.getD undef = .bool true := hI.has 20 25 rfl (hall ⟨20, .guard⟩ (by simp) rfl)
            have g1 : act.tmps[1]?.getD undef = .pointer (some ⟨B', 7, none⟩) := hI.kept 1 (by kernel_rfl)
            clear hI hall hnot hcl
            refine .inl ⟨(wanted_of rfl rfl gg).trans rfl, ?_⟩
            clear gg
            unfold Oper.wp
            go_simp
            all_goals exact ⟨_, rfl, rfl, ⟨_, rfl⟩⟩
          · simp at hq; subst hq
            have gg : act.tmps[25]?.getD undef = .bool true := hI.has 20 25 rfl (hall ⟨20, .guard⟩ (by simp) rfl)
            have g30 : act.tmps[30]?.getD undef = .pointer (some ⟨B', 7, none⟩) := hI.has 25 30 rfl (hall ⟨25, .data⟩ (by simp) rfl)
            clear hI hall hnot hcl
            refine .inl ⟨(wanted_of rfl rfl gg).trans rfl, ?_⟩
            clear gg
            unfold Oper.wp
            go_simp
            all_goals exact ⟨_, rfl, rfl, ⟨_, rfl⟩⟩
          · simp at hq; subst hq
            have gg : act.tmps[25]?.getD undef = .bool true := hI.has 20 25 rfl (hall ⟨20, .guard⟩ (by simp) rfl)
            have g31 : act.tmps[31]?.getD undef = .pointer (some ⟨B', 7, none⟩) := hI.has 26 31 rfl (hall ⟨26, .data⟩ (by simp) rfl)
            clear hI hall hnot hcl
            refine .inl ⟨(wanted_of rfl rfl gg).trans rfl, ?_⟩
            clear gg
            unfold Oper.wp
            go_simp
            all_goals exact ⟨_, rfl, rfl, ⟨_, rfl⟩⟩
          · simp at hq; subst hq
            have gg : act.tmps[25]?.getD undef = .bool true := hI.has 20 25 rfl (hall ⟨20, .guard⟩ (by simp) rfl)
            have g32 : act.tmps[32]?.getD undef = .pointer (some ⟨B', 9, none⟩) := hI.has 27 32 rfl (hall ⟨27, .data⟩ (by simp) rfl)
            clear hI hall hnot hcl
            refine .inl ⟨(wanted_of rfl rfl gg).trans rfl, ?_⟩
            clear gg
            unfold Oper.wp
            go_simp
            all_goals exact ⟨_, rfl, rfl, ⟨_, rfl⟩⟩
          · simp at hq; subst hq
            have gg : act.tmps[25]?.getD undef = .bool true := hI.has 20 25 rfl (hall ⟨20, .guard⟩ (by simp) rfl)
            have g29 : act.tmps[29]?.getD undef = .float .f32 s := hI.has 24 29 rfl (hall ⟨24, .data⟩ (by simp) rfl)
            have g33 : act.tmps[33]?.getD undef = .float .f32 s' := hI.has 28 33 rfl (hall ⟨28, .data⟩ (by simp) rfl)
            clear hI hall hnot hcl
            refine .inl ⟨(wanted_of rfl rfl gg).trans rfl, ?_⟩
            clear gg
            unfold Oper.wp
            go_simp
            refine (s_l01Same _ _ _ A2.out B2.out).mono ?_
            rintro e w4 ⟨rfl, rfl⟩
            rw [P2.out]
            exact ⟨_, rfl, rfl, ⟨_, rfl⟩⟩
          · simp at hq; subst hq
            have g25 : act.tmps[25]?.getD undef = .bool true := hI.has 20 25 rfl (hall ⟨20, .data⟩ (by simp) rfl)
            have g34 : act.tmps[34]?.getD undef = .bool true := hI.has 29 34 rfl (hall ⟨29, .data⟩ (by simp) rfl)
            clear hI hall hnot hcl
            refine .inl ⟨wanted_none rfl, ?_⟩
            unfold Oper.wp
            go_simp
            all_goals exact ⟨_, rfl, rfl, ⟨_, rfl⟩⟩
          · simp at hq; subst hq
            have g35 : act.tmps[35]?.getD undef = .bool true := hI.has 30 35 rfl (hall ⟨30, .data⟩ (by simp) rfl)
            clear hI hall hnot hcl
            refine .inl ⟨wanted_none rfl, ?_⟩
            unfold Oper.wp
            go_simp
            all_goals exact ⟨_, rfl, rfl, ⟨_, rfl⟩⟩
          · simp at hq; subst hq
            have gg : act.tmps[36]?.getD undef = .bool true := hI.has 31 36 rfl (hall ⟨31, .guard⟩ (by simp) rfl)
            have g0 : act.tmps[0]?.getD undef = .pointer (some ⟨B, 7, none⟩) := hI.kept 0 (by kernel_rfl)
            clear hI hall hnot hcl
            refine .inl ⟨(wanted_of rfl rfl gg).trans rfl, ?_⟩
            clear gg
            unfold Oper.wp
            go_simp
            all_goals exact ⟨_, rfl, rfl, ⟨_, rfl⟩⟩
          · simp at hq; subst hq
            have gg : act.tmps[36]?.getD undef = .bool true := hI.has 31 36 rfl (hall ⟨31, .guard⟩ (by simp) rfl)
            have g37 : act.tmps[37]?.getD undef = .pointer (some ⟨B, 7, none⟩) := hI.has 32 37 rfl (hall ⟨32, .data⟩ (by simp) rfl)
            clear hI hall hnot hcl
            refine .inl ⟨(wanted_of rfl rfl gg).trans rfl, ?_⟩
            clear gg
            unfold Oper.wp
            go_simp
            all_goals exact ⟨_, rfl, rfl, ⟨_, rfl⟩⟩
          · simp at hq; subst hq
            have gg : act.tmps[36]?.getD undef = .bool true := hI.has 31 36 rfl (hall ⟨31, .guard⟩ (by simp) rfl)
            have g38 : act.tmps[38]?.getD undef = .pointer (some ⟨B, 7, none⟩) := hI.has 33 38 rfl (hall ⟨33, .data⟩ (by simp) rfl)
            clear hI hall hnot hcl
            refine .inl ⟨(wanted_of rfl rfl gg).trans rfl, ?_⟩
            clear gg
            unfold Oper.wp
            go_simp
            all_goals exact ⟨_, rfl, rfl, ⟨_, rfl⟩⟩
          · simp at hq; subst hq
            have gg : act.tmps[36]?.getD undef = .bool true := hI.has 31 36 rfl (hall ⟨31, .guard⟩ (by simp) rfl)
            have g39 : act.tmps[39]?.getD undef = .pointer (some ⟨B, 10, none⟩) := hI.has 34 39 rfl (hall ⟨34, .data⟩ (by simp) rfl)
            clear hI hall hnot hcl
            refine .inl ⟨(wanted_of rfl rfl gg).trans rfl, ?_⟩
            clear gg
            unfold Oper.wp
            go_simp
            all_goals exact ⟨_, rfl, rfl, ⟨_, rfl⟩⟩
          · simp at hq; subst hq
            have gg : act.tmps[36]?.getD undef = .bool true := hI.has 31 36 rfl (hall ⟨31, .guard⟩ (by simp) rfl)
            have g1 : act.tmps[1]?.getD undef = .pointer (some ⟨B', 7, none⟩) := hI.kept 1 (by kernel_rfl)
            clear hI hall hnot hcl
            refine .inl ⟨(wanted_of rfl rfl gg).trans rfl, ?_⟩
            clear gg
            unfold Oper.wp
            go_simp
            all_goals exact ⟨_, rfl, rfl, ⟨_, rfl⟩⟩
          · simp at hq; subst hq
            have gg : act.tmps[36]?.getD undef = .bool true := hI.has 31 36 rfl (hall ⟨31, .guard⟩ (by simp) rfl)
            have g41 : act.tmps[41]?.getD undef = .pointer (some ⟨B', 7, none⟩) := hI.has 36 41 rfl (hall ⟨36, .data⟩ (by simp) rfl)
            clear hI hall hnot hcl
            refine .inl ⟨(wanted_of rfl rfl gg).trans rfl, ?_⟩
            clear gg
            unfold Oper.wp
            go_simp
            all_goals exact ⟨_, rfl, rfl, ⟨_, rfl⟩⟩
          · simp at hq; subst hq
            have gg : act.tmps[36]?.getD undef = .bool true := hI.has 31 36 rfl (hall ⟨31, .guard⟩ (by simp) rfl)
            have g42 : act.tmps[42]?.getD undef = .pointer (some ⟨B', 7, none⟩) := hI.has 37 42 rfl (hall ⟨37, .data⟩ (by simp) rfl)
            clear hI hall hnot hcl
            refine .inl ⟨(wanted_of rfl rfl gg).trans rfl, ?_⟩
            clear gg
            unfold Oper.wp
            go_simp
            all_goals exact ⟨_, rfl, rfl, ⟨_, rfl⟩⟩
          · simp at hq; subst hq
            have gg : act.tmps[36]?.getD undef = .bool true := hI.has 31 36 rfl (hall ⟨31, .guard⟩ (by simp) rfl)
            have g43 : act.tmps[43]?.getD undef = .pointer (some ⟨B', 10, none⟩) := hI.has 38 43 rfl (hall ⟨38, .data⟩ (by simp) rfl)
            clear hI hall hnot hcl
            refine .inl ⟨(wanted_of rfl rfl gg).trans rfl, ?_⟩
            clear gg
            unfold Oper.wp
            go_simp
            all_goals exact ⟨_, rfl, rfl, ⟨_, rfl⟩⟩
          · simp at hq; subst hq
            have gg : act.tmps[36]?.getD undef = .bool true := hI.has 31 36 rfl (hall ⟨31, .guard⟩ (by simp) rfl)
            have g40 : act.tmps[40]?.getD undef = .float .f32 k := hI.has 35 40 rfl (hall ⟨35, .data⟩ (by simp) rfl)
            have g44 : act.tmps[44]?.getD undef = .float .f32 k' := hI.has 39 44 rfl (hall ⟨39, .data⟩ (by simp) rfl)
            clear hI hall hnot hcl
            refine .inl ⟨(wanted_of rfl rfl gg).trans rfl, ?_⟩
            clear gg
            unfold Oper.wp
            go_simp
            refine (s_l01Same _ _ _ A3.out B3.out).mono ?_
            rintro e w4 ⟨rfl, rfl⟩
            exact ⟨_, rfl, rfl, ⟨_, rfl⟩⟩
          · simp at hq; subst hq
            have g36 : act.tmps[36]?.getD undef = .bool true := hI.has 31 36 rfl (hall ⟨31, .data⟩ (by simp) rfl)
            have g45 : act.tmps[45]?.getD undef = .bool (decide (canon .f32 k = canon .f32 k')) := hI.has 40 45 rfl (hall ⟨40, .data⟩ (by simp) rfl)
            clear hI hall hnot hcl
            refine .inl ⟨wanted_none rfl, ?_⟩
            unfold Oper.wp
            go_simp
            all_goals exact ⟨_, rfl, rfl, ⟨_, rfl⟩⟩
          · simp at hq; subst hq
            have g46 : act.tmps[46]?.getD undef = .bool (decide (canon .f32 k = canon .f32 k')) := hI.has 41 46 rfl (hall ⟨41, .data⟩ (by simp) rfl)
            clear hI hall hnot hcl
            refine .inl ⟨wanted_none rfl, ?_⟩
            unfold Oper.wp
            go_simp
            all_goals exact ⟨_, rfl, rfl, ⟨_, rfl⟩⟩
          · simp at hq
        case hend =>
          intro listed act w3 hI hall
          obtain ⟨nn, rfl⟩ := hI.cls
          have g4 : act.tmps[4]?.getD undef = .bool (decide (canon .f32 k = canon .f32 k')) := hI.has 42 4 rfl (hall 42 (by decide))
          have hd := hI.defers
          clear hI hall
          go_wp2
          refine bodyPost_ret (v := .bool (decide (canon .f32 k = canon .f32 k'))) (by simp [results, Try.results137, g4, go_sem]) (by first | rfl | exact hd) ?_
          first | refine ⟨?_, nn, rfl⟩ | refine ⟨nn, ?_, rfl⟩
          unfold airS samN1
          rw [show decide _ = _ from P0.out, show decide _ = _ from P1.out, show decide _ = _ from P2.out]
          rfl
set_option maxHeartbeats 8000000 in
set_option maxRecDepth 100000 in
theorem s_l06SameD (X Y : Option Addr) (cx cy : Nat) (fx fy : List Nat) (fr fd fs : Nat) (X' Y' : Option Addr) (cx' cy' : Nat) (fx' fy' : List Nat) (fr' fd' fs' : Nat) (B B' : Nat) (w : World) (h : Rs w X Y fx fy) (h' : Rs w X' Y' fx' fy') (hn : FewS fx fy) (hn' : FewS fx' fy') (hw : (∀ x ∈ fx, x < words .f32) ∧ ∀ x ∈ fy, x < words .f32) (hw' : (∀ x ∈ fx', x < words .f32) ∧ ∀ x ∈ fy', x < words .f32) (hv : fr < words .f32 ∧ fd < words .f32 ∧ fs < words .f32) (hv' : fr' < words .f32 ∧ fd' < words .f32 ∧ fs' < words .f32) (hk : w.cell? ⟨B, 23, none⟩ = some (.slice X fx.length cx) ∧ w.cell? ⟨B, 24, none⟩ = some (.slice Y fy.length cy) ∧ w.cell? ⟨B, 25, none⟩ = some (.float .f32 fr) ∧ w.cell? ⟨B, 26, none⟩ = some (.float .f32 fd) ∧ w.cell? ⟨B, 27, none⟩ = some (.float .f32 fs)) (hk' : w.cell? ⟨B', 23, none⟩ = some (.slice X' fx'.length cx') ∧ w.cell? ⟨B', 24, none⟩ = some (.slice Y' fy'.length cy') ∧ w.cell? ⟨B', 25, none⟩ = some (.float .f32 fr') ∧ w.cell? ⟨B', 26, none⟩ = some (.float .f32 fd') ∧ w.cell? ⟨B', 27, none⟩ = some (.float .f32 fs')) :
    Calls Try.prog 139 #[.pointer (some ⟨B, 23, none⟩), .pointer (some ⟨B', 23, none⟩)] w fun e w' => e = .returned (.bool (frmE fx fy fr fd fs fx' fy' fr' fd' fs')) ∧ ∃ n, w' = w.drewN n := by
  unfold FewS at hn hn'
  obtain ⟨v0, v1, v2⟩ := hv
  obtain ⟨z0, z1, z2⟩ := hv'
  have HP := Lib.hid h; have HP' := Lib.hid h'
  have HW := Lib.hid hw; have HW' := Lib.hid hw'
  obtain ⟨k0, k1, k2, k3, k4⟩ := hk
  obtain ⟨l0, l1, l2, l3, l4⟩ := hk'
  have A0 : ∀ m, Hid (Calls Try.prog 179 #[.slice X fx.length cx, .slice X' fx'.length cx'] (w.drewN m) fun e w' => e = .returned (.bool (samL1 fx fx')) ∧ ∃ n, w' = (w.drewN m).drewN n) := fun m => Lib.hid (s_l01SameAllR X X' cx cx' fx fx' _ (HP.out.1.draws m) (HP'.out.1.draws m) (by omega) (by omega) HW.out.1 HW'.out.1)
  have A1 : ∀ m, Hid (Calls Try.prog 179 #[.slice Y fy.length cy, .slice Y' fy'.length cy'] (w.drewN m) fun e w' => e = .returned (.bool (samL1 fy fy')) ∧ ∃ n, w' = (w.drewN m).drewN n) := fun m => Lib.hid (s_l01SameAllR Y Y' cy cy' fy fy' _ (HP.out.2.draws m) (HP'.out.2.draws m) (by omega) (by omega) HW.out.2 HW'.out.2)
  have Q0 : ∀ W, Hid (Calls Try.prog 177 #[.float .f32 fr, .float .f32 fr'] W fun e w' => e = .returned (.bool (samN1 fr fr')) ∧ w' = W) := fun W => Lib.hid (s_l01Same _ _ _ (canon_lt v0) (canon_lt z0))
  have Q1 : ∀ W, Hid (Calls Try.prog 177 #[.float .f32 fd, .float .f32 fd'] W fun e w' => e = .returned (.bool (samN1 fd fd')) ∧ w' = W) := fun W => Lib.hid (s_l01Same _ _ _ (canon_lt v1) (canon_lt z1))
  have Q2 : ∀ W, Hid (Calls Try.prog 177 #[.float .f32 fs, .float .f32 fs'] W fun e w' => e = .returned (.bool (samN1 fs fs')) ∧ w' = W) := fun W => Lib.hid (s_l01Same _ _ _ (canon_lt v2) (canon_lt z2))
  clear h h' hw hw' v0 v1 v2 z0 z1 z2 hn hn' HP HP' HW HW'
  have HE : Hid (frmE fx fy fr fd fs fx' fy' fr' fd' fs' = (samL1 fx fx' && (samL1 fy fy' && (samN1 fr fr' && (samN1 fd fd' && samN1 fs fs'))))) := rfl
  generalize samL1 fx fx' = u0 at A0 HE
  generalize samL1 fy fy' = u1 at A1 HE
  generalize samN1 fr fr' = t0 at Q0 HE
  generalize samN1 fd fd' = t1 at Q1 HE
  generalize samN1 fs fs' = t2 at Q2 HE
  have hdd : ∀ nn j, ∃ mm, (w.drewN nn).drewN j = w.drewN mm := fun nn j => ⟨nn + j, World.drewN_drewN ..⟩
  go_enter Try.func139, Try.ntmps139
  go_wp2_with fail
  refine wp_region_inv3 (fun iq v => match iq with
    | 0 => v = .pointer (some ⟨B, 23, none⟩)
    | 1 => v = .pointer (some ⟨B, 23, none⟩)
    | 2 => v = .pointer (some ⟨B, 23, none⟩)
    | 3 => v = .slice X fx.length cx
    | 4 => v = .pointer (some ⟨B', 23, none⟩)
    | 5 => v = .pointer (some ⟨B', 23, none⟩)
    | 6 => v = .pointer (some ⟨B', 23, none⟩)
    | 7 => v = .slice X' fx'.length cx'
    | 8 => v = .bool u0
    | 9 => v = .bool u0
    | 10 => Gd u0 true (v = .pointer (some ⟨B, 23, none⟩)) v
    | 11 => Gd u0 true (v = .pointer (some ⟨B, 23, none⟩)) v
    | 12 => Gd u0 true (v = .pointer (some ⟨B, 24, none⟩)) v
    | 13 => Gd u0 true (v = .slice Y fy.length cy) v
    | 14 => Gd u0 true (v = .pointer (some ⟨B', 23, none⟩)) v
    | 15 => Gd u0 true (v = .pointer (some ⟨B', 23, none⟩)) v
    | 16 => Gd u0 true (v = .pointer (some ⟨B', 24, none⟩)) v
    | 17 => Gd u0 true (v = .slice Y' fy'.length cy') v
    | 18 => Gd u0 true (v = .bool u1) v
    | 19 => v = .bool (u0 && u1)
    | 20 => v = .bool (u0 && u1)
    | 21 => Gd ((u0 && u1)) true (v = .pointer (some ⟨B, 23, none⟩)) v
    | 22 => Gd ((u0 && u1)) true (v = .pointer (some ⟨B, 23, none⟩)) v
    | 23 => Gd ((u0 && u1)) true (v = .pointer (some ⟨B, 25, none⟩)) v
    | 24 => Gd ((u0 && u1)) true (v = .float .f32 fr) v
    | 25 => Gd ((u0 && u1)) true (v = .pointer (some ⟨B', 23, none⟩)) v
    | 26 => Gd ((u0 && u1)) true (v = .pointer (some ⟨B', 23, none⟩)) v
    | 27 => Gd ((u0 && u1)) true (v = .pointer (some ⟨B', 25, none⟩)) v
    | 28 => Gd ((u0 && u1)) true (v = .float .f32 fr') v
    | 29 => Gd ((u0 && u1)) true (v = .bool t0) v
    | 30 => v = .bool ((u0 && u1) && t0)
    | 31 => v = .bool ((u0 && u1) && t0)
    | 32 => Gd (((u0 && u1) && t0)) true (v = .pointer (some ⟨B, 23, none⟩)) v
    | 33 => Gd (((u0 && u1) && t0)) true (v = .pointer (some ⟨B, 23, none⟩)) v
    | 34 => Gd (((u0 && u1) && t0)) true (v = .pointer (some ⟨B, 26, none⟩)) v
    | 35 => Gd (((u0 && u1) && t0)) true (v = .float .f32 fd) v
    | 36 => Gd (((u0 && u1) && t0)) true (v = .pointer (some ⟨B', 23, none⟩)) v
    | 37 => Gd (((u0 && u1) && t0)) true (v = .pointer (some ⟨B', 23, none⟩)) v
    | 38 => Gd (((u0 && u1) && t0)) true (v = .pointer (some ⟨B', 26, none⟩)) v
    | 39 => Gd (((u0 && u1) && t0)) true (v = .float .f32 fd') v
    | 40 => Gd (((u0 && u1) && t0)) true (v = .bool t1) v
    | 41 => v = .bool (((u0 && u1) && t0) && t1)
    | 42 => v = .bool (((u0 && u1) && t0) && t1)
    | 43 => Gd ((((u0 && u1) && t0) && t1)) true (v = .pointer (some ⟨B, 23, none⟩)) v
    | 44 => Gd ((((u0 && u1) && t0) && t1)) true (v = .pointer (some ⟨B, 23, none⟩)) v
    | 45 => Gd ((((u0 && u1) && t0) && t1)) true (v = .pointer (some ⟨B, 27, none⟩)) v
    | 46 => Gd ((((u0 && u1) && t0) && t1)) true (v = .float .f32 fs) v
    | 47 => Gd ((((u0 && u1) && t0) && t1)) true (v = .pointer (some ⟨B', 23, none⟩)) v
    | 48 => Gd ((((u0 && u1) && t0) && t1)) true (v = .pointer (some ⟨B', 23, none⟩)) v
    | 49 => Gd ((((u0 && u1) && t0) && t1)) true (v = .pointer (some ⟨B', 27, none⟩)) v
    | 50 => Gd ((((u0 && u1) && t0) && t1)) true (v = .float .f32 fs') v
    | 51 => Gd ((((u0 && u1) && t0) && t1)) true (v = .bool t2) v
    | 52 => v = .bool ((((u0 && u1) && t0) && t1) && t2)
    | 53 => v = .bool ((((u0 && u1) && t0) && t1) && t2)
    | _ => False) (fun _ ww => ∃ nn, ww = w.drewN nn) (by kernel_rfl) (by kernel_rfl) ⟨1, rfl⟩ ?hop ?hend
  case hop =>
    intro q o hq listed act w3 hI hnot hcl hall
    obtain ⟨nn, rfl⟩ := hI.cls
    rcases q with _ | _ | _ | _ | _ | _ | _ | _ | _ | _ | _ | _ | _ | _ | _ | _ | _ | _ | _ | _ | _ | _ | _ | _ | _ | _ | _ | _ | _ | _ | _ | _ | _ | _ | _ | _ | _ | _ | _ | _ | _ | _ | _ | _ | _ | _ | _ | _ | _ | _ | _ | _ | _ | _ | q
    · simp at hq; subst hq
      have g0 : act.tmps[0]?.getD undef = .pointer (some ⟨B, 23, none⟩) := hI.kept 0 (by kernel_rfl)
      clear hI hall hnot hcl
      refine .inl ⟨wanted_none rfl, ?_⟩
      unfold Oper.wp
      go_simp
      all_goals exact ⟨_, rfl, rfl, ⟨_, rfl⟩⟩
    · simp at hq; subst hq
      have g5 : act.tmps[5]?.getD undef = .pointer (some ⟨B, 23, none⟩) := hI.has 0 5 rfl (hall ⟨0, .data⟩ (by simp) rfl)
      clear hI hall hnot hcl
      refine .inl ⟨wanted_none rfl, ?_⟩
      unfold Oper.wp
      go_simp
      all_goals exact ⟨_, rfl, rfl, ⟨_, rfl⟩⟩
    · simp at hq; subst hq
      have g6 : act.tmps[6]?.getD undef = .pointer (some ⟨B, 23, none⟩) := hI.has 1 6 rfl (hall ⟨1, .data⟩ (by simp) rfl)
      clear hI hall hnot hcl
      refine .inl ⟨wanted_none rfl, ?_⟩
      unfold Oper.wp
      go_simp
      all_goals exact ⟨_, rfl, rfl, ⟨_, rfl⟩⟩
    · simp at hq; subst hq
      have g7 : act.tmps[7]?.getD undef = .pointer (some ⟨B, 23, none⟩) := hI.has 2 7 rfl (hall ⟨2, .data⟩ (by simp) rfl)
      clear hI hall hnot hcl
      refine .inl ⟨wanted_none rfl, ?_⟩
      unfold Oper.wp
      go_simp
      all_goals exact ⟨_, rfl, rfl, ⟨_, rfl⟩⟩
    · simp at hq; subst hq
      have g1 : act.tmps[1]?.getD undef = .pointer (some ⟨B', 23, none⟩) := hI.kept 1 (by kernel_rfl)
      clear hI hall hnot hcl
      refine .inl ⟨wanted_none rfl, ?_⟩
      unfold Oper.wp
      go_simp
      all_goals exact ⟨_, rfl, rfl, ⟨_, rfl⟩⟩
    · simp at hq; subst hq
      have g9 : act.tmps[9]?.getD undef = .pointer (some ⟨B', 23, none⟩) := hI.has 4 9 rfl (hall ⟨4, .data⟩ (by simp) rfl)
      clear hI hall hnot hcl
      refine .inl ⟨wanted_none rfl, ?_⟩
      unfold Oper.wp
      go_simp
      all_goals exact ⟨_, rfl, rfl, ⟨_, rfl⟩⟩
    · simp at hq; subst hq
      have g10 : act.tmps[10]?.getD undef = .pointer (some ⟨B', 23, none⟩) := hI.has 5 10 rfl (hall ⟨5, .data⟩ (by simp) rfl)
      clear hI hall hnot hcl
      refine .inl ⟨wanted_none rfl, ?_⟩
      unfold Oper.wp
      go_simp
      all_goals exact ⟨_, rfl, rfl, ⟨_, rfl⟩⟩
    · simp at hq; subst hq
      have g11 : act.tmps[11]?.getD undef = .pointer (some ⟨B', 23, none⟩) := hI.has 6 11 rfl (hall ⟨6, .data⟩ (by simp) rfl)
      clear hI hall hnot hcl
      refine .inl ⟨wanted_none rfl, ?_⟩
      unfold Oper.wp
      go_simp
      all_goals exact ⟨_, rfl, rfl, ⟨_, rfl⟩⟩
    · simp at hq; subst hq
      have g8 : act.tmps[8]?.getD undef = .slice X fx.length cx := hI.has 3 8 rfl (hall ⟨3, .data⟩ (by simp) rfl)
      have g12 : act.tmps[12]?.getD undef = .slice X' fx'.length cx' := hI.has 7 12 rfl (hall ⟨7, .data⟩ (by simp) rfl)
      clear hI hall hnot hcl
      refine .inl ⟨wanted_none rfl, ?_⟩
      unfold Oper.wp
      go_simp
      refine (A0 _).out.mono ?_
      rintro e w4 ⟨rfl, n4, rfl⟩
      exact ⟨_, rfl, rfl, hdd _ _⟩
    · simp at hq; subst hq
      have g13 : act.tmps[13]?.getD undef = .bool u0 := hI.has 8 13 rfl (hall ⟨8, .data⟩ (by simp) rfl)
      clear hI hall hnot hcl
      refine .inl ⟨wanted_none rfl, ?_⟩
      unfold Oper.wp
      go_simp
      all_goals exact ⟨_, rfl, rfl, ⟨_, rfl⟩⟩
    · simp at hq; subst hq
      have gg : act.tmps[14]?.getD undef = .bool u0 := hI.has 9 14 rfl (hall ⟨9, .guard⟩ (by simp) rfl)
      rcases Bool.eq_false_or_eq_true u0 with hc | hc
      case inr =>
        exact .inr ⟨(wanted_of rfl rfl (gg.trans (by rw [hc]))).trans rfl, Gd.no hc, ⟨_, rfl⟩⟩
      have g0 : act.tmps[0]?.getD undef = .pointer (some ⟨B, 23, none⟩) := hI.kept 0 (by kernel_rfl)
      clear hI hall hnot hcl
      refine .inl ⟨(wanted_of rfl rfl (gg.trans (by rw [hc]))).trans rfl, ?_⟩
      clear gg
      unfold Oper.wp
      go_simp
      all_goals exact ⟨_, rfl, Gd.yes (by first | rfl | exact hc) rfl, ⟨_, rfl⟩⟩
    · simp at hq; subst hq
      have gg : act.tmps[14]?.getD undef = .bool u0 := hI.has 9 14 rfl (hall ⟨9, .guard⟩ (by simp) rfl)
      rcases Bool.eq_false_or_eq_true u0 with hc | hc
      case inr =>
        exact .inr ⟨(wanted_of rfl rfl (gg.trans (by rw [hc]))).trans rfl, Gd.no hc, ⟨_, rfl⟩⟩
      have g15 : act.tmps[15]?.getD undef = .pointer (some ⟨B, 23, none⟩) := Gd.get (hI.has 10 15 rfl (hall ⟨10, .data⟩ (by simp) rfl)) hc
      clear hI hall hnot hcl
      refine .inl ⟨(wanted_of rfl rfl (gg.trans (by rw [hc]))).trans rfl, ?_⟩
      clear gg
      unfold Oper.wp
      go_simp
      all_goals exact ⟨_, rfl, Gd.yes (by first | rfl | exact hc) rfl, ⟨_, rfl⟩⟩
    · simp at hq; subst hq
      have gg : act.tmps[14]?.getD undef = .bool u0 := hI.has 9 14 rfl (hall ⟨9, .guard⟩ (by simp) rfl)
      rcases Bool.eq_false_or_eq_true u0 with hc | hc
      case inr =>
        exact .inr ⟨(wanted_of rfl rfl (gg.trans (by rw [hc]))).trans rfl, Gd.no hc, ⟨_, rfl⟩⟩
      have g16 : act.tmps[16]?.getD undef = .pointer (some ⟨B, 23, none⟩) := Gd.get (hI.has 11 16 rfl (hall ⟨11, .data⟩ (by simp) rfl)) hc
      clear hI hall hnot hcl
      refine .inl ⟨(wanted_of rfl rfl (gg.trans (by rw [hc]))).trans rfl, ?_⟩
      clear gg
      unfold Oper.wp
      go_simp
      all_goals exact ⟨_, rfl, Gd.yes (by first | rfl | exact hc) rfl, ⟨_, rfl⟩⟩
    · simp at hq; subst hq
      have gg : act.tmps[14]?.getD undef = .bool u0 := hI.has 9 14 rfl (hall ⟨9, .guard⟩ (by simp) rfl)
      rcases Bool.eq_false_or_eq_true u0 with hc | hc
      case inr =>
        exact .inr ⟨(wanted_of rfl rfl (gg.trans (by rw [hc]))).trans rfl, Gd.no hc, ⟨_, rfl⟩⟩
      have g17 : act.tmps[17]?.getD undef = .pointer (some ⟨B, 24, none⟩) := Gd.get (hI.has 12 17 rfl (hall ⟨12, .data⟩ (by simp) rfl)) hc
      clear hI hall hnot hcl
      refine .inl ⟨(wanted_of rfl rfl (gg.trans (by rw [hc]))).trans rfl, ?_⟩
      clear gg
      unfold Oper.wp
      go_simp
      all_goals exact ⟨_, rfl, Gd.yes (by first | rfl | exact hc) rfl, ⟨_, rfl⟩⟩
    · simp at hq; subst hq
      have gg : act.tmps[14]?.getD undef = .bool u0 := hI.has 9 14 rfl (hall ⟨9, .guard⟩ (by simp) rfl)
      rcases Bool.eq_false_or_eq_true u0 with hc | hc
      case inr =>
        exact .inr ⟨(wanted_of rfl rfl (gg.trans (by rw [hc]))).trans rfl, Gd.no hc, ⟨_, rfl⟩⟩
      have g1 : act.tmps[1]?.getD undef = .pointer (some ⟨B', 23, none⟩) := hI.kept 1 (by kernel_rfl)
      clear hI hall hnot hcl
      refine .inl ⟨(wanted_of rfl rfl (gg.trans (by rw [hc]))).trans rfl, ?_⟩
      clear gg
      unfold Oper.wp
      go_simp
      all_goals exact ⟨_, rfl, Gd.yes (by first | rfl | exact hc) rfl, ⟨_, rfl⟩⟩
    · simp at hq; subst hq
      have gg : act.tmps[14]?.getD undef = .bool u0 := hI.has 9 14 rfl (hall ⟨9, .guard⟩ (by simp) rfl)
      rcases Bool.eq_false_or_eq_true u0 with hc | hc
      case inr =>
        exact .inr ⟨(wanted_of rfl rfl (gg.trans (by rw [hc]))).trans rfl, Gd.no hc, ⟨_, rfl⟩⟩
      have g19 : act.tmps[19]?.getD undef = .pointer (some ⟨B', 23, none⟩) := Gd.get (hI.has 14 19 rfl (hall ⟨14, .data⟩ (by simp) rfl)) hc
      clear hI hall hnot hcl
      refine .inl ⟨(wanted_of rfl rfl (gg.trans (by rw [hc]))).trans rfl, ?_⟩
      clear gg
      unfold Oper.wp
      go_simp
      all_goals exact ⟨_, rfl, Gd.yes (by first | rfl | exact hc) rfl, ⟨_, rfl⟩⟩
    · simp at hq; subst hq
      have gg : act.tmps[14]?.getD undef = .bool u0 := hI.has 9 14 rfl (hall ⟨9, .guard⟩ (by simp) rfl)
      rcases Bool.eq_false_or_eq_true u0 with hc | hc
      case inr =>
        exact .inr ⟨(wanted_of rfl rfl (gg.trans (by rw [hc]))).trans rfl, Gd.no hc, ⟨_, rfl⟩⟩
      have g20 : act.tmps[20]?.getD undef = .pointer (some ⟨B', 23, none⟩) := Gd.get (hI.has 15 20 rfl (hall ⟨15, .data⟩ (by simp) rfl)) hc
      clear hI hall hnot hcl
      refine .inl ⟨(wanted_of rfl rfl (gg.trans (by rw [hc]))).trans rfl, ?_⟩
      clear gg
      unfold Oper.wp
      go_simp
      all_goals exact ⟨_, rfl, Gd.yes (by first | rfl | exact hc) rfl, ⟨_, rfl⟩⟩
    · simp at hq; subst hq
      have gg : act.tmps[14]?.getD undef = .bool u0 := hI.has 9 14 rfl (hall ⟨9, .guard⟩ (by simp) rfl)
      rcases Bool.eq_false_or_eq_true u0 with hc | hc
      case inr =>
        exact .inr ⟨(wanted_of rfl rfl (gg.trans (by rw [hc]))).trans rfl, Gd.no hc, ⟨_, rfl⟩⟩
      have g21 : act.tmps[21]?.getD undef = .pointer (some ⟨B', 24, none⟩) := Gd.get (hI.has 16 21 rfl (hall ⟨16, .data⟩ (by simp) rfl)) hc
      clear hI hall hnot hcl
      refine .inl ⟨(wanted_of rfl rfl (gg.trans (by rw [hc]))).trans rfl, ?_⟩
      clear gg
      unfold Oper.wp
      go_simp
      all_goals exact ⟨_, rfl, Gd.yes (by first | rfl | exact hc) rfl, ⟨_, rfl⟩⟩
    · simp at hq; subst hq
      have gg : act.tmps[14]?.getD undef = .bool u0 := hI.has 9 14 rfl (hall ⟨9, .guard⟩ (by simp) rfl)
      rcases Bool.eq_false_or_eq_true u0 with hc | hc
      case inr =>
        exact .inr ⟨(wanted_of rfl rfl (gg.trans (by rw [hc]))).trans rfl, Gd.no hc, ⟨_, rfl⟩⟩
      have g18 : act.tmps[18]?.getD undef = .slice Y fy.length cy := Gd.get (hI.has 13 18 rfl (hall ⟨13, .data⟩ (by simp) rfl)) hc
      have g22 : act.tmps[22]?.getD undef = .slice Y' fy'.length cy' := Gd.get (hI.has 17 22 rfl (hall ⟨17, .data⟩ (by simp) rfl)) hc
      clear hI hall hnot hcl
      refine .inl ⟨(wanted_of rfl rfl (gg.trans (by rw [hc]))).trans rfl, ?_⟩
      clear gg
      unfold Oper.wp
      go_simp
      refine (A1 _).out.mono ?_
      rintro e w4 ⟨rfl, n4, rfl⟩
      exact ⟨_, rfl, Gd.yes (by first | rfl | exact hc) rfl, hdd _ _⟩
    · simp at hq; subst hq
      have g14 : act.tmps[14]?.getD undef = .bool u0 := hI.has 9 14 rfl (hall ⟨9, .data⟩ (by simp) rfl)
      have G23 := hI.has 18 23 rfl (hall ⟨18, .data⟩ (by simp) rfl)
      clear hI hall hnot hcl
      refine .inl ⟨wanted_none rfl, ?_⟩
      unfold Oper.wp
      rcases Bool.eq_false_or_eq_true u0 with hc | hc
      · rw [hc] at g14
        have g23 := Gd.get G23 hc
        clear G23
        go_simp
        all_goals exact ⟨_, rfl, by first | rfl | (rw [hc]; rfl), ⟨_, rfl⟩⟩
      · rw [hc] at g14
        have g23 := Gd.un G23 hc
        clear G23
        go_simp
        all_goals exact ⟨_, rfl, by first | rfl | (rw [hc]; rfl), ⟨_, rfl⟩⟩
    · simp at hq; subst hq
      have g24 : act.tmps[24]?.getD undef = .bool (u0 && u1) := hI.has 19 24 rfl (hall ⟨19, .data⟩ (by simp) rfl)
      clear hI hall hnot hcl
      refine .inl ⟨wanted_none rfl, ?_⟩
      unfold Oper.wp
      go_simp
      all_goals exact ⟨_, rfl, rfl, ⟨_, rfl⟩⟩
    · simp at hq; subst hq
      have gg : act.tmps[25]?.getD undef = .bool ((u0 && u1)) := hI.has 20 25 rfl (hall ⟨20, .guard⟩ (by simp) rfl)
      rcases Bool.eq_false_or_eq_true ((u0 && u1)) with hc | hc
      case inr =>
        exact .inr ⟨(wanted_of rfl rfl (gg.trans (by rw [hc]))).trans rfl, Gd.no hc, ⟨_, rfl⟩⟩
      have g0 : act.tmps[0]?.getD undef = .pointer (some ⟨B, 23, none⟩) := hI.kept 0 (by kernel_rfl)
      clear hI hall hnot hcl
      refine .inl ⟨(wanted_of rfl rfl (gg.trans (by rw [hc]))).trans rfl, ?_⟩
      clear gg
      unfold Oper.wp
      go_simp
      all_goals exact ⟨_, rfl, Gd.yes (by first | rfl | exact hc) rfl, ⟨_, rfl⟩⟩
    · simp at hq; subst hq
      have gg : act.tmps[25]?.getD undef = .bool ((u0 && u1)) := hI.has 20 25 rfl (hall ⟨20, .guard⟩ (by simp) rfl)
      rcases Bool.eq_false_or_eq_true ((u0 && u1)) with hc | hc
      case inr =>
        exact .inr ⟨(wanted_of rfl rfl (gg.trans (by rw [hc]))).trans rfl, Gd.no hc, ⟨_, rfl⟩⟩
      have g26 : act.tmps[26]?.getD undef = .pointer (some ⟨B, 23, none⟩) := Gd.get (hI.has 21 26 rfl (hall ⟨21, .data⟩ (by simp) rfl)) hc
      clear hI hall hnot hcl
      refine .inl ⟨(wanted_of rfl rfl (gg.trans (by rw [hc]))).trans rfl, ?_⟩
      clear gg
      unfold Oper.wp
      go_simp
      all_goals exact ⟨_, rfl, Gd.yes (by first | rfl | exact hc) rfl, ⟨_, rfl⟩⟩
    · simp at hq; subst hq
      have gg : act.tmps[25]?.getD undef = .bool ((u0 && u1)) := hI.has 20 25 rfl (hall ⟨20, .guard⟩ (by simp) rfl)
      rcases Bool.eq_false_or_eq_true ((u0 && u1)) with hc | hc
      case inr =>
        exact .inr ⟨(wanted_of rfl rfl (gg.trans (by rw [hc]))).trans rfl, Gd.no hc, ⟨_, rfl⟩⟩
      have g27 : act.tmps[27]?.getD undef = .pointer (some ⟨B, 23, none⟩) := Gd.get (hI.has 22 27 rfl (hall ⟨22, .data⟩ (by simp) rfl)) hc
      clear hI hall hnot hcl
      refine .inl ⟨(wanted_of rfl rfl (gg.trans (by rw [hc]))).trans rfl, ?_⟩
      clear gg
      unfold Oper.wp
      go_simp
      all_goals exact ⟨_, rfl, Gd.yes (by first | rfl | exact hc) rfl, ⟨_, rfl⟩⟩
    · simp at hq; subst hq
      have gg : act.tmps[25]?.getD undef = .bool ((u0 && u1)) := hI.has 20 25 rfl (hall ⟨20, .guard⟩ (by simp) rfl)
      rcases Bool.eq_false_or_eq_true ((u0 && u1)) with hc | hc
      case inr =>
        exact .inr ⟨(wanted_of rfl rfl (gg.trans (by rw [hc]))).trans rfl, Gd.no hc, ⟨_, rfl⟩⟩
      have g28 : act.tmps[28]?.getD undef = .pointer (some ⟨B, 25, none⟩) := Gd.get (hI.has 23 28 rfl (hall ⟨23, .data⟩ (by simp) rfl)) hc
      clear hI hall hnot hcl
      refine .inl ⟨(wanted_of rfl rfl (gg.trans (by rw [hc]))).trans rfl, ?_⟩
      clear gg
      unfold Oper.wp
      go_simp
      all_goals exact ⟨_, rfl, Gd.yes (by first | rfl | exact hc) rfl, ⟨_, rfl⟩⟩
    · simp at hq; subst hq
      have gg : act.tmps[25]?.getD undef = .bool ((u0 && u1)) := hI.has 20 25 rfl (hall ⟨20, .guard⟩ (by simp) rfl)
      rcases Bool.eq_false_or_eq_true ((u0 && u1)) with hc | hc
      case inr =>
        exact .inr ⟨(wanted_of rfl rfl (gg.trans (by rw [hc]))).trans rfl, Gd.no hc, ⟨_, rfl⟩⟩
      have g1 : act.tmps[1]?.getD undef = .pointer (some ⟨B', 23, none⟩) := hI.kept 1 (by kernel_rfl)
      clear hI hall hnot hcl
      refine .inl ⟨(wanted_of rfl rfl (gg.trans (by rw [hc]))).trans rfl, ?_⟩
      clear gg
      unfold Oper.wp
      go_simp
      all_goals exact ⟨_, rfl, Gd.yes (by first | rfl | exact hc) rfl, ⟨_, rfl⟩⟩
    · simp at hq; subst hq
      have gg : act.tmps[25]?.getD undef = .bool ((u0 && u1)) := hI.has 20 25 rfl (hall ⟨20, .guard⟩ (by simp) rfl)
      rcases Bool.eq_false_or_eq_true ((u0 && u1)) with hc | hc
      case inr =>
        exact .inr ⟨(wanted_of rfl rfl (gg.trans (by rw [hc]))).trans rfl, Gd.no hc, ⟨_, rfl⟩⟩
      have g30 : act.tmps[30]?.getD undef = .pointer (some ⟨B', 23, none⟩) := Gd.get (hI.has 25 30 rfl (hall ⟨25, .data⟩ (by simp) rfl)) hc
      clear hI hall hnot hcl
      refine .inl ⟨(wanted_of rfl rfl (gg.trans (by rw [hc]))).trans rfl, ?_⟩
      clear gg
      unfold Oper.wp
      go_simp
      all_goals exact ⟨_, rfl, Gd.yes (by first | rfl | exact hc) rfl, ⟨_, rfl⟩⟩
    · simp at hq; subst hq
      have gg : act.tmps[25]?.getD undef = .bool ((u0 && u1)) := hI.has 20 25 rfl (hall ⟨20, .guard⟩ (by simp) rfl)
      rcases Bool.eq_false_or_eq_true ((u0 && u1)) with hc | hc
      case inr =>
        exact .inr ⟨(wanted_of rfl rfl (gg.trans (by rw [hc]))).trans rfl, Gd.no hc, ⟨_, rfl⟩⟩
      have g31 : act.tmps[31]?.getD undef = .pointer (some ⟨B', 23, none⟩) := Gd.get (hI.has 26 31 rfl (hall ⟨26, .data⟩ (by simp) rfl)) hc
      clear hI hall hnot hcl
      refine .inl ⟨(wanted_of rfl rfl (gg.trans (by rw [hc]))).trans rfl, ?_⟩
      clear gg
      unfold Oper.wp
      go_simp
      all_goals exact ⟨_, rfl, Gd.yes (by first | rfl | exact hc) rfl, ⟨_, rfl⟩⟩
    · simp at hq; subst hq
      have gg : act.tmps[25]?.getD undef = .bool ((u0 && u1)) := hI.has 20 25 rfl (hall ⟨20, .guard⟩ (by simp) rfl)
      rcases Bool.eq_false_or_eq_true ((u0 && u1)) with hc | hc
      case inr =>
        exact .inr ⟨(wanted_of rfl rfl (gg.trans (by rw [hc]))).trans rfl, Gd.no hc, ⟨_, rfl⟩⟩
      have g32 : act.tmps[32]?.getD undef = .pointer (some ⟨B', 25, none⟩) := Gd.get (hI.has 27 32 rfl (hall ⟨27, .data⟩ (by simp) rfl)) hc
      clear hI hall hnot hcl
      refine .inl ⟨(wanted_of rfl rfl (gg.trans (by rw [hc]))).trans rfl, ?_⟩
      clear gg
      unfold Oper.wp
      go_simp
      all_goals exact ⟨_, rfl, Gd.yes (by first | rfl | exact hc) rfl, ⟨_, rfl⟩⟩
    · simp at hq; subst hq
      have gg : act.tmps[25]?.getD undef = .bool ((u0 && u1)) := hI.has 20 25 rfl (hall ⟨20, .guard⟩ (by simp) rfl)
      rcases Bool.eq_false_or_eq_true ((u0 && u1)) with hc | hc
      case inr =>
        exact .inr ⟨(wanted_of rfl rfl (gg.trans (by rw [hc]))).trans rfl, Gd.no hc, ⟨_, rfl⟩⟩
      have g29 : act.tmps[29]?.getD undef = .float .f32 fr := Gd.get (hI.has 24 29 rfl (hall ⟨24, .data⟩ (by simp) rfl)) hc
      have g33 : act.tmps[33]?.getD undef = .float .f32 fr' := Gd.get (hI.has 28 33 rfl (hall ⟨28, .data⟩ (by simp) rfl)) hc
      clear hI hall hnot hcl
      refine .inl ⟨(wanted_of rfl rfl (gg.trans (by rw [hc]))).trans rfl, ?_⟩
      clear gg
      unfold Oper.wp
      go_simp
      refine (Q0 _).out.mono ?_
      rintro e w4 ⟨rfl, rfl⟩
      exact ⟨_, rfl, Gd.yes (by first | rfl | exact hc) rfl, ⟨_, rfl⟩⟩
    · simp at hq; subst hq
      have g25 : act.tmps[25]?.getD undef = .bool (u0 && u1) := hI.has 20 25 rfl (hall ⟨20, .data⟩ (by simp) rfl)
      have G34 := hI.has 29 34 rfl (hall ⟨29, .data⟩ (by simp) rfl)
      clear hI hall hnot hcl
      refine .inl ⟨wanted_none rfl, ?_⟩
      unfold Oper.wp
      rcases Bool.eq_false_or_eq_true ((u0 && u1)) with hc | hc
      · rw [hc] at g25
        have g34 := Gd.get G34 hc
        clear G34
        go_simp
        all_goals exact ⟨_, rfl, by first | rfl | (rw [hc]; rfl), ⟨_, rfl⟩⟩
      · rw [hc] at g25
        have g34 := Gd.un G34 hc
        clear G34
        go_simp
        all_goals exact ⟨_, rfl, by first | rfl | (rw [hc]; rfl), ⟨_, rfl⟩⟩
    · simp at hq; subst hq
      have g35 : act.tmps[35]?.getD undef = .bool ((u0 && u1) && t0) := hI.has 30 35 rfl (hall ⟨30, .data⟩ (by simp) rfl)
      clear hI hall hnot hcl
      refine .inl ⟨wanted_none rfl, ?_⟩
      unfold Oper.wp
      go_simp
      all_goals exact ⟨_, rfl, rfl, ⟨_, rfl⟩⟩
    · simp at hq; subst hq
      have gg : act.tmps[36]?.getD undef = .bool (((u0 && u1) && t0)) := hI.has 31 36 rfl (hall ⟨31, .guard⟩ (by simp) rfl)
      rcases Bool.eq_false_or_eq_true (((u0 && u1) && t0)) with hc | hc
      case inr =>
        exact .inr ⟨(wanted_of rfl rfl (gg.trans (by rw [hc]))).trans rfl, Gd.no hc, ⟨_, rfl⟩⟩
      have g0 : act.tmps[0]?.getD undef = .pointer (some ⟨B, 23, none⟩) := hI.kept 0 (by kernel_rfl)
      clear hI hall hnot hcl
      refine .inl ⟨(wanted_of rfl rfl (gg.trans (by rw [hc]))).trans rfl, ?_⟩
      clear gg
      unfold Oper.wp
      go_simp
      all_goals exact ⟨_, rfl, Gd.yes (by first | rfl | exact hc) rfl, ⟨_, rfl⟩⟩
    · simp at hq; subst hq
      have gg : act.tmps[36]?.getD undef = .bool (((u0 && u1) && t0)) := hI.has 31 36 rfl (hall ⟨31, .guard⟩ (by simp) rfl)
      rcases Bool.eq_false_or_eq_true (((u0 && u1) && t0)) with hc | hc
      case inr =>
        exact .inr ⟨(wanted_of rfl rfl (gg.trans (by rw [hc]))).trans rfl, Gd.no hc, ⟨_, rfl⟩⟩
      have g37 : act.tmps[37]?.getD undef = .pointer (some ⟨B, 23, none⟩) := Gd.get (hI.has 32 37 rfl (hall ⟨32, .data⟩ (by simp) rfl)) hc
      clear hI hall hnot hcl
      refine .inl ⟨(wanted_of rfl rfl (gg.trans (by rw [hc]))).trans rfl, ?_⟩
      clear gg
      unfold Oper.wp
      go_simp
      all_goals exact ⟨_, rfl, Gd.yes (by first | rfl | exact hc) rfl, ⟨_, rfl⟩⟩
    · simp at hq; subst hq
      have gg : act.tmps[36]?.getD undef = .bool (((u0 && u1) && t0)) := hI.has 31 36 rfl (hall ⟨31, .guard⟩ (by simp) rfl)
      rcases Bool.eq_false_or_eq_true (((u0 && u1) && t0)) with hc | hc
      case inr =>
        exact .inr ⟨(wanted_of rfl rfl (gg.trans (by rw [hc]))).trans rfl, Gd.no hc, ⟨_, rfl⟩⟩
      have g38 : act.tmps[38]?.getD undef = .pointer (some ⟨B, 23, none⟩) := Gd.get (hI.has 33 38 rfl (hall ⟨33, .data⟩ (by simp) rfl)) hc
      clear hI hall hnot hcl
      refine .inl ⟨(wanted_of rfl rfl (gg.trans (by rw [hc]))).trans rfl, ?_⟩
      clear gg
      unfold Oper.wp
      go_simp
      all_goals exact ⟨_, rfl, Gd.yes (by first | rfl | exact hc) rfl, ⟨_, rfl⟩⟩
    · simp at hq; subst hq
      have gg : act.tmps[36]?.getD undef = .bool (((u0 && u1) && t0)) := hI.has 31 36 rfl (hall ⟨31, .guard⟩ (by simp) rfl)
      rcases Bool.eq_false_or_eq_true (((u0 && u1) && t0)) with hc | hc
      case inr =>
        exact .inr ⟨(wanted_of rfl rfl (gg.trans (by rw [hc]))).trans rfl, Gd.no hc, ⟨_, rfl⟩⟩
      have g39 : act.tmps[39]?.getD undef = .pointer (some ⟨B, 26, none⟩) := Gd.get (hI.has 34 39 rfl (hall ⟨34, .data⟩ (by simp) rfl)) hc
      clear hI hall hnot hcl
      refine .inl ⟨(wanted_of rfl rfl (gg.trans (by rw [hc]))).trans rfl, ?_⟩
      clear gg
      unfold Oper.wp
      go_simp
      all_goals exact ⟨_, rfl, Gd.yes (by first | rfl | exact hc) rfl, ⟨_, rfl⟩⟩
    · simp at hq; subst hq
      have gg : act.tmps[36]?.getD undef = .bool (((u0 && u1) && t0)) := hI.has 31 36 rfl (hall ⟨31, .guard⟩ (by simp) rfl)
      rcases Bool.eq_false_or_eq_true (((u0 && u1) && t0)) with hc | hc
      case inr =>
        exact .inr ⟨(wanted_of rfl rfl (gg.trans (by rw [hc]))).trans rfl, Gd.no hc, ⟨_, rfl⟩⟩
      have g1 : act.tmps[1]?.getD undef = .pointer (some ⟨B', 23, none⟩) := hI.kept 1 (by kernel_rfl)
      clear hI hall hnot hcl
      refine .inl ⟨(wanted_of rfl rfl (gg.trans (by rw [hc]))).trans rfl, ?_⟩
      clear gg
      unfold Oper.wp
      go_simp
      all_goals exact ⟨_, rfl, Gd.yes (by first | rfl | exact hc) rfl, ⟨_, rfl⟩⟩
    · simp at hq; subst hq
      have gg : act.tmps[36]?.getD undef = .bool (((u0 && u1) && t0)) := hI.has 31 36 rfl (hall ⟨31, .guard⟩ (by simp) rfl)
      rcases Bool.eq_false_or_eq_true (((u0 && u1) && t0)) with hc | hc
      case inr =>
        exact .inr ⟨(wanted_of rfl rfl (gg.trans (by rw [hc]))).trans rfl, Gd.no hc, ⟨_, rfl⟩⟩
      have g41 : act.tmps[41]?.getD undef = .pointer (some ⟨B', 23, none⟩) := Gd.get (hI.has 36 41 rfl (hall ⟨36, .data⟩ (by simp) rfl)) hc
      clear hI hall hnot hcl
      refine .inl ⟨(wanted_of rfl rfl (gg.trans (by rw [hc]))).trans rfl, ?_⟩
      clear gg
      unfold Oper.wp
      go_simp
      all_goals exact ⟨_, rfl, Gd.yes (by first | rfl | exact hc) rfl, ⟨_, rfl⟩⟩
    · simp at hq; subst hq
      have gg : act.tmps[36]?.getD undef = .bool (((u0 && u1) && t0)) := hI.has 31 36 rfl (hall ⟨31, .guard⟩ (by simp) rfl)
      rcases Bool.eq_false_or_eq_true (((u0 && u1) && t0)) with hc | hc
      case inr =>
        exact .inr ⟨(wanted_of rfl rfl (gg.trans (by rw [hc]))).trans rfl, Gd.no hc, ⟨_, rfl⟩⟩
      have g42 : act.tmps[42]?.getD undef = .pointer (some ⟨B', 23, none⟩) := Gd.get (hI.has 37 42 rfl (hall ⟨37, .data⟩ (by simp) rfl)) hc
      clear hI hall hnot hcl
      refine .inl ⟨(wanted_of rfl rfl (gg.trans (by rw [hc]))).trans rfl, ?_⟩
      clear gg
      unfold Oper.wp
      go_simp
      all_goals exact ⟨_, rfl, Gd.yes (by first | rfl | exact hc) rfl, ⟨_, rfl⟩⟩
    · simp at hq; subst hq
      have gg : act.tmps[36]?.getD undef = .bool (((u0 && u1) && t0)) := hI.has 31 36 rfl (hall ⟨31, .guard⟩ (by simp) rfl)
      rcases Bool.eq_false_or_eq_true (((u0 && u1) && t0)) with hc | hc
      case inr =>
        exact .inr ⟨(wanted_of rfl rfl (gg.trans (by rw [hc]))).trans rfl, Gd.no hc, ⟨_, rfl⟩⟩
      have g43 : act.tmps[43]?.getD undef = .pointer (some ⟨B', 26, none⟩) := Gd.get (hI.has 38 43 rfl (hall ⟨38, .data⟩ (by simp) rfl)) hc
      clear hI hall hnot hcl
      refine .inl ⟨(wanted_of rfl rfl (gg.trans (by rw [hc]))).trans rfl, ?_⟩
      clear gg
      unfold Oper.wp
      go_simp
      all_goals exact ⟨_, rfl, Gd.yes (by first | rfl | exact hc) rfl, ⟨_, rfl⟩⟩
    · simp at hq; subst hq
      have gg : act.tmps[36]?.getD undef = .bool (((u0 && u1) && t0)) := hI.has 31 36 rfl (hall ⟨31, .guard⟩ (by simp) rfl)
      rcases Bool.eq_false_or_eq_true (((u0 && u1) && t0)) with hc | hc
      case inr =>
        exact .inr ⟨(wanted_of rfl rfl (gg.trans (by rw [hc]))).trans rfl, Gd.no hc, ⟨_, rfl⟩⟩
      have g40 : act.tmps[40]?.getD undef = .float .f32 fd := Gd.get (hI.has 35 40 rfl (hall ⟨35, .data⟩ (by simp) rfl)) hc
      have g44 : act.tmps[44]?.getD undef = .float .f32 fd' := Gd.get (hI.has 39 44 rfl (hall ⟨39, .data⟩ (by simp) rfl)) hc
      clear hI hall hnot hcl
      refine .inl ⟨(wanted_of rfl rfl (gg.trans (by rw [hc]))).trans rfl, ?_⟩
      clear gg
      unfold Oper.wp
      go_simp
      refine (Q1 _).out.mono ?_
      rintro e w4 ⟨rfl, rfl⟩
      exact ⟨_, rfl, Gd.yes (by first | rfl | exact hc) rfl, ⟨_, rfl⟩⟩
    · simp at hq; subst hq
      have g36 : act.tmps[36]?.getD undef = .bool ((u0 && u1) && t0) := hI.has 31 36 rfl (hall ⟨31, .data⟩ (by simp) rfl)
      have G45 := hI.has 40 45 rfl (hall ⟨40, .data⟩ (by simp) rfl)
      clear hI hall hnot hcl
      refine .inl ⟨wanted_none rfl, ?_⟩
      unfold Oper.wp
      rcases Bool.eq_false_or_eq_true (((u0 && u1) && t0)) with hc | hc
      · rw [hc] at g36
        have g45 := Gd.get G45 hc
        clear G45
        go_simp
        all_goals exact ⟨_, rfl, by first | rfl | (rw [hc]; rfl), ⟨_, rfl⟩⟩
      · rw [hc] at g36
        have g45 := Gd.un G45 hc
        clear G45
        go_simp
        all_goals exact ⟨_, rfl, by first | rfl | (rw [hc]; rfl), ⟨_, rfl⟩⟩
    · simp at hq; subst hq
      have g46 : act.tmps[46]?.getD undef = .bool (((u0 && u1) && t0) && t1) := hI.has 41 46 rfl (hall ⟨41, .data⟩ (by simp) rfl)
      clear hI hall hnot hcl
      refine .inl ⟨wanted_none rfl, ?_⟩
      unfold Oper.wp
      go_simp
      all_goals exact ⟨_, rfl, rfl, ⟨_, rfl⟩⟩
    · simp at hq; subst hq
      have gg : act.tmps[47]?.getD undef = .bool ((((u0 && u1) && t0) && t1)) := hI.has 42 47 rfl (hall ⟨42, .guard⟩ (by simp) rfl)
      rcases Bool.eq_false_or_eq_true ((((u0 && u1) && t0) && t1)) with hc | hc
      case inr =>
        exact .inr ⟨(wanted_of rfl rfl (gg.trans (by rw [hc]))).trans rfl, Gd.no hc, ⟨_, rfl⟩⟩
      have g0 : act.tmps[0]?.getD undef = .pointer (some ⟨B, 23, none⟩) := hI.kept 0 (by kernel_rfl)
      clear hI hall hnot hcl
      refine .inl ⟨(wanted_of rfl rfl (gg.trans (by rw [hc]))).trans rfl, ?_⟩
      clear gg
      unfold Oper.wp
      go_simp
      all_goals exact ⟨_, rfl, Gd.yes (by first | rfl | exact hc) rfl, ⟨_, rfl⟩⟩
    · simp at hq; subst hq
      have gg : act.tmps[47]?.getD undef = .bool ((((u0 && u1) && t0) && t1)) := hI.has 42 47 rfl (hall ⟨42, .guard⟩ (by simp) rfl)
      rcases Bool.eq_false_or_eq_true ((((u0 && u1) && t0) && t1)) with hc | hc
      case inr =>
        exact .inr ⟨(wanted_of rfl rfl (gg.trans (by rw [hc]))).trans rfl, Gd.no hc, ⟨_, rfl⟩⟩
      have g48 : act.tmps[48]?.getD undef = .pointer (some ⟨B, 23, none⟩) := Gd.get (hI.has 43 48 rfl (hall ⟨43, .data⟩ (by simp) rfl)) hc
      clear hI hall hnot hcl
      refine .inl ⟨(wanted_of rfl rfl (gg.trans (by rw [hc]))).trans rfl, ?_⟩
      clear gg
      unfold Oper.wp
      go_simp
      all_goals exact ⟨_, rfl, Gd.yes (by first | rfl | exact hc) rfl, ⟨_, rfl⟩⟩
    · simp at hq; subst hq
      have gg : act.tmps[47]?.getD undef = .bool ((((u0 && u1) && t0) && t1)) := hI.has 42 47 rfl (hall ⟨42, .guard⟩ (by simp) rfl)
      rcases Bool.eq_false_or_eq_true ((((u0 && u1) && t0) && t1)) with hc | hc
      case inr =>
        exact .inr ⟨(wanted_of rfl rfl (gg.trans (by rw [hc]))).trans rfl, Gd.no hc, ⟨_, rfl⟩⟩
      have g49 : act.tmps[49]?.getD undef = .pointer (some ⟨B, 23, none⟩) := Gd.get (hI.has 44 49 rfl (hall ⟨44, .data⟩ (by simp) rfl)) hc
      clear hI hall hnot hcl
      refine .inl ⟨(wanted_of rfl rfl (gg.trans (by rw [hc]))).trans rfl, ?_⟩
      clear gg
      unfold Oper.wp
      go_simp
      all_goals exact ⟨_, rfl, Gd.yes (by first | rfl | exact hc) rfl, ⟨_, rfl⟩⟩
    · simp at hq; subst hq
      have gg : act.tmps[47]?.getD undef = .bool ((((u0 && u1) && t0) && t1)) := hI.has 42 47 rfl (hall ⟨42, .guard⟩ (by simp) rfl)
      rcases Bool.eq_false_or_eq_true ((((u0 && u1) && t0) && t1)) with hc | hc
      case inr =>
        exact .inr ⟨(wanted_of rfl rfl (gg.trans (by rw [hc]))).trans rfl, Gd.no hc, ⟨_, rfl⟩⟩
      have g50 : act.tmps[50]?.getD undef = .pointer (some ⟨B, 27, none⟩) := Gd.get (hI.has 45 50 rfl (hall ⟨45, .data⟩ (by simp) rfl)) hc
      clear hI hall hnot hcl
      refine .inl ⟨(wanted_of rfl rfl (gg.trans (by rw [hc]))).trans rfl, ?_⟩
      clear gg
      unfold Oper.wp
      go_simp
      all_goals exact ⟨_, rfl, Gd.yes (by first | rfl | exact hc) rfl, ⟨_, rfl⟩⟩
    · simp at hq; subst hq
      have gg : act.tmps[47]?.getD undef = .bool ((((u0 && u1) && t0) && t1)) := hI.has 42 47 rfl (hall ⟨42, .guard⟩ (by simp) rfl)
      rcases Bool.eq_false_or_eq_true ((((u0 && u1) && t0) && t1)) with hc | hc
      case inr =>
        exact .inr ⟨(wanted_of rfl rfl (gg.trans (by rw [hc]))).trans rfl, Gd.no hc, ⟨_, rfl⟩⟩
      have g1 : act.tmps[1]?.getD undef = .pointer (some ⟨B', 23, none⟩) := hI.kept 1 (by kernel_rfl)
      clear hI hall hnot hcl
      refine .inl ⟨(wanted_of rfl rfl (gg.trans (by rw [hc]))).trans rfl, ?_⟩
      clear gg
      unfold Oper.wp
      go_simp
      all_goals exact ⟨_, rfl, Gd.yes (by first | rfl | exact hc) rfl, ⟨_, rfl⟩⟩
    · simp at hq; subst hq
      have gg : act.tmps[47]?.getD undef = .bool ((((u0 && u1) && t0) && t1)) := hI.has 42 47 rfl (hall ⟨42, .guard⟩ (by simp) rfl)
      rcases Bool.eq_false_or_eq_true ((((u0 && u1) && t0) && t1)) with hc | hc
      case inr =>
        exact .inr ⟨(wanted_of rfl rfl (gg.trans (by rw [hc]))).trans rfl, Gd.no hc, ⟨_, rfl⟩⟩
      have g52 : act.tmps[52]?.getD undef = .pointer (some ⟨B', 23, none⟩) := Gd.get (hI.has 47 52 rfl (hall ⟨47, .data⟩ (by simp) rfl)) hc
      clear hI hall hnot hcl
      refine .inl ⟨(wanted_of rfl rfl (gg.trans (by rw [hc]))).trans rfl, ?_⟩
      clear gg
      unfold Oper.wp
      go_simp
      all_goals exact ⟨_, rfl, Gd.yes (by first | rfl | exact hc) rfl, ⟨_, rfl⟩⟩
    · simp at hq; subst hq
      have gg : act.tmps[47]?.getD undef = .bool ((((u0 && u1) && t0) && t1)) := hI.has 42 47 rfl (hall ⟨42, .guard⟩ (by simp) rfl)
      rcases Bool.eq_false_or_eq_true ((((u0 && u1) && t0) && t1)) with hc | hc
      case inr =>
        exact .inr ⟨(wanted_of rfl rfl (gg.trans (by rw [hc]))).trans rfl, Gd.no hc, ⟨_, rfl⟩⟩
      have g53 : act.tmps[53]?.getD undef = .pointer (some ⟨B', 23, none⟩) := Gd.get (hI.has 48 53 rfl (hall ⟨48, .data⟩ (by simp) rfl)) hc
      clear hI hall hnot hcl
      refine .inl ⟨(wanted_of rfl rfl (gg.trans (by rw [hc]))).trans rfl, ?_⟩
      clear gg
      unfold Oper.wp
      go_simp
      all_goals exact ⟨_, rfl, Gd.yes (by first | rfl | exact hc) rfl, ⟨_, rfl⟩⟩
    · simp at hq; subst hq
      have gg : act.tmps[47]?.getD undef = .bool ((((u0 && u1) && t0) && t1)) := hI.has 42 47 rfl (hall ⟨42, .guard⟩ (by simp) rfl)
      rcases Bool.eq_false_or_eq_true ((((u0 && u1) && t0) && t1)) with hc | hc
      case inr =>
        exact .inr ⟨(wanted_of rfl rfl (gg.trans (by rw [hc]))).trans rfl, Gd.no hc, ⟨_, rfl⟩⟩
      have g54 : act.tmps[54]?.getD undef = .pointer (some ⟨B', 27, none⟩) := Gd.get (hI.has 49 54 rfl (hall ⟨49, .data⟩ (by simp) rfl)) hc
      clear hI hall hnot hcl
      refine .inl ⟨(wanted_of rfl rfl (gg.trans (by rw [hc]))).trans rfl, ?_⟩
      clear gg
      unfold Oper.wp
      go_simp
      all_goals exact ⟨_, rfl, Gd.yes (by first | rfl | exact hc) rfl, ⟨_, rfl⟩⟩
    · simp at hq; subst hq
      have gg : act.tmps[47]?.getD undef = .bool ((((u0 && u1) && t0) && t1)) := hI.has 42 47 rfl (hall ⟨42, .guard⟩ (by simp) rfl)
      rcases Bool.eq_false_or_eq_true ((((u0 && u1) && t0) && t1)) with hc | hc
      case inr =>
        exact .inr ⟨(wanted_of rfl rfl (gg.trans (by rw [hc]))).trans rfl, Gd.no hc, ⟨_, rfl⟩⟩
      have g51 : act.tmps[51]?.getD undef = .float .f32 fs := Gd.get (hI.has 46 51 rfl (hall ⟨46, .data⟩ (by simp) rfl)) hc
      have g55 : act.tmps[55]?.getD undef = .float .f32 fs' := Gd.get (hI.has 50 55 rfl (hall ⟨50, .data⟩ (by simp) rfl)) hc
      clear hI hall hnot hcl
      refine .inl ⟨(wanted_of rfl rfl (gg.trans (by rw [hc]))).trans rfl, ?_⟩
      clear gg
      unfold Oper.wp
      go_simp
      refine (Q2 _).out.mono ?_
      rintro e w4 ⟨rfl, rfl⟩
      exact ⟨_, rfl, Gd.yes (by first | rfl | exact hc) rfl, ⟨_, rfl⟩⟩
    · simp at hq; subst hq
      have g47 : act.tmps[47]?.getD undef = .bool (((u0 && u1) && t0) && t1) := hI.has 42 47 rfl (hall ⟨42, .data⟩ (by simp) rfl)
      have G56 := hI.has 51 56 rfl (hall ⟨51, .data⟩ (by simp) rfl)
      clear hI hall hnot hcl
      refine .inl ⟨wanted_none rfl, ?_⟩
      unfold Oper.wp
      rcases Bool.eq_false_or_eq_true ((((u0 && u1) && t0) && t1)) with hc | hc
      · rw [hc] at g47
        have g56 := Gd.get G56 hc
        clear G56
        go_simp
        all_goals exact ⟨_, rfl, by first | rfl | (rw [hc]; rfl), ⟨_, rfl⟩⟩
      · rw [hc] at g47
        have g56 := Gd.un G56 hc
        clear G56
        go_simp
        all_goals exact ⟨_, rfl, by first | rfl | (rw [hc]; rfl), ⟨_, rfl⟩⟩
    · simp at hq; subst hq
      have g57 : act.tmps[57]?.getD undef = .bool ((((u0 && u1) && t0) && t1) && t2) := hI.has 52 57 rfl (hall ⟨52, .data⟩ (by simp) rfl)
      clear hI hall hnot hcl
      refine .inl ⟨wanted_none rfl, ?_⟩
      unfold Oper.wp
      go_simp
      all_goals exact ⟨_, rfl, rfl, ⟨_, rfl⟩⟩
    · simp at hq
  case hend =>
    intro listed act w3 hI hall
    obtain ⟨nn, rfl⟩ := hI.cls
    have g4 : act.tmps[4]?.getD undef = .bool ((((u0 && u1) && t0) && t1) && t2) := hI.has 53 4 rfl (hall 53 (by decide))
    have hd := hI.defers
    clear hI hall
    go_wp2
    refine bodyPost_ret (v := .bool ((((u0 && u1) && t0) && t1) && t2)) (by simp [results, Try.results139, g4, go_sem]) (by first | rfl | exact hd) ?_
    first | refine ⟨?_, nn, rfl⟩ | refine ⟨nn, ?_, rfl⟩
    rw [HE.out]
    simp only [Bool.and_assoc]
end Go.Proofs.Ytiiiigldpbomkaa

/- SameProfile: the specification's side. No statement is proved here. -/
import Derived.Test.YtiiiigldpbomkaaSame
import Derived.Test.YtiiiigldpbomkaaInv3
namespace Go.Proofs.Ytiiiigldpbomkaa
open Go Go.RowKit
set_option maxHeartbeats 8000000 in
set_option maxRecDepth 100000 in
theorem s_l02Same (A L D A' L' D' : Option Addr) (ca cl cd ca' cl' cd' : Nat) (a l d a' l' d' : List Nat) (B B' : Nat) (w : World) (h : Pf w A L D a l d) (h' : Pf w A' L' D' a' l' d')
    (hk : Blk3 w B (.slice A a.length ca) (.slice L l.length cl) (.slice D d.length cd)) (hk' : Blk3 w B' (.slice A' a'.length ca') (.slice L' l'.length cl') (.slice D' d'.length cd')) (hn : Few a l d) (hw : WordsP a l d) (hw' : WordsP a' l' d') :
    Calls Try.prog 209 #[.pointer (some ⟨B, 0, none⟩), .pointer (some ⟨B', 0, none⟩)] w fun e w' => ∃ n, e = .returned (.bool (sameP a l d a' l' d')) ∧ w' = w.drewN n := by
  unfold Few at hn
  have HP := Lib.hid h; clear h
  have HP' := Lib.hid h'; clear h'
  have HW := Lib.hid hw; clear hw
  have HW' := Lib.hid hw'; clear hw'
  obtain ⟨-, ⟨k0, k1, k2⟩, -, -, -⟩ := hk
  obtain ⟨-, ⟨l0, l1, l2⟩, -, -, -⟩ := hk'
  have Q1 : ∀ m, Hid (Calls Try.prog 179 #[.slice A a.length ca, .slice A' a'.length ca'] (w.drewN m) fun e w' => e = .returned (.bool (sameL a a')) ∧ ∃ n, w' = (w.drewN m).drewN n) := fun m => Lib.hid (s_l01SameAll A A' ca ca' a a' _ (HP.out.1.draws m) (HP'.out.1.draws m) HW.out.1 HW'.out.1 (by omega))
  have Q2 : ∀ m, Hid (Calls Try.prog 179 #[.slice L l.length cl, .slice L' l'.length cl'] (w.drewN m) fun e w' => e = .returned (.bool (sameL l l')) ∧ ∃ n, w' = (w.drewN m).drewN n) := fun m => Lib.hid (s_l01SameAll L L' cl cl' l l' _ (HP.out.2.1.draws m) (HP'.out.2.1.draws m) HW.out.2.1 HW'.out.2.1 (by omega))
  have Q3 : ∀ m, Hid (Calls Try.prog 179 #[.slice D d.length cd, .slice D' d'.length cd'] (w.drewN m) fun e w' => e = .returned (.bool (sameL d d')) ∧ ∃ n, w' = (w.drewN m).drewN n) := fun m => Lib.hid (s_l01SameAll D D' cd cd' d d' _ (HP.out.2.2.draws m) (HP'.out.2.2.draws m) HW.out.2.2 HW'.out.2.2 (by omega))
  clear hn
  have HE : Hid (sameP a l d a' l' d' = (sameL a a' && (sameL l l' && sameL d d'))) := rfl
  generalize sameL a a' = x at Q1 HE
  generalize sameL l l' = y at Q2 HE
  generalize sameL d d' = z at Q3 HE
  generalize sameP a l d a' l' d' = r at HE
  have hdd : ∀ nn j, ∃ mm, (w.drewN nn).drewN j = w.drewN mm := fun nn j => ⟨nn + j, World.drewN_drewN ..⟩
  clear HP HP' HW HW'
  cases x
  · go_enter Try.func209, Try.ntmps209
    go_wp2_with fail
    refine wp_region_inv3 (fun q0 v => match q0 with
      | 0 => v = .pointer (some ⟨B, 0, none⟩)
      | 1 => v = .pointer (some ⟨B, 0, none⟩)
      | 2 => v = .pointer (some ⟨B, 0, none⟩)
      | 3 => v = .slice A a.length ca
      | 4 => v = .pointer (some ⟨B', 0, none⟩)
      | 5 => v = .pointer (some ⟨B', 0, none⟩)
      | 6 => v = .pointer (some ⟨B', 0, none⟩)
      | 7 => v = .slice A' a'.length ca'
      | 8 => v = .bool false
      | 9 => v = .bool false
      | 10 => v = undef
      | 11 => v = undef
      | 12 => v = undef
      | 13 => v = undef
      | 14 => v = undef
      | 15 => v = undef
      | 16 => v = undef
      | 17 => v = undef
      | 18 => v = undef
      | 19 => v = .bool false
      | 20 => v = .bool false
      | 21 => v = undef
      | 22 => v = undef
      | 23 => v = undef
      | 24 => v = undef
      | 25 => v = undef
      | 26 => v = undef
      | 27 => v = undef
      | 28 => v = undef
      | 29 => v = undef
      | 30 => v = .bool false
      | 31 => v = .bool false
      | _ => False) (fun _ ww => ∃ nn, ww = w.drewN nn) (by kernel_rfl) (by kernel_rfl) ⟨1, rfl⟩ ?hop ?hend
    case hop =>
      intro q o hq listed act w3 hI hnot hcl hall
      obtain ⟨nn, rfl⟩ := hI.cls
      rcases q with _ | _ | _ | _ | _ | _ | _ | _ | _ | _ | _ | _ | _ | _ | _ | _ | _ | _ | _ | _ | _ | _ | _ | _ | _ | _ | _ | _ | _ | _ | _ | _ | q
      · simp at hq; subst hq
        have g0 : act.tmps[0]?.getD undef = .pointer (some ⟨B, 0, none⟩) := hI.kept 0 (by kernel_rfl)
        clear hI hall hnot hcl
        refine .inl ⟨wanted_none rfl, ?_⟩
        unfold Oper.wp
        go_simp
        all_goals exact ⟨_, rfl, rfl, ⟨_, rfl⟩⟩
      · simp at hq; subst hq
        have g5 : act.tmps[5]?.getD undef = .pointer (some ⟨B, 0, none⟩) := hI.has 0 5 rfl (hall ⟨0, .data⟩ (by simp) rfl)
        clear hI hall hnot hcl
        refine .inl ⟨wanted_none rfl, ?_⟩
        unfold Oper.wp
        go_simp
        all_goals exact ⟨_, rfl, rfl, ⟨_, rfl⟩⟩
      · simp at hq; subst hq
        have g6 : act.tmps[6]?.getD undef = .pointer (some ⟨B, 0, none⟩) := hI.has 1 6 rfl (hall ⟨1, .data⟩ (by simp) rfl)
        clear hI hall hnot hcl
        refine .inl ⟨wanted_none rfl, ?_⟩
        unfold Oper.wp
        go_simp
        all_goals exact ⟨_, rfl, rfl, ⟨_, rfl⟩⟩
      · simp at hq; subst hq
        have g7 : act.tmps[7]?.getD undef = .pointer (some ⟨B, 0, none⟩) := hI.has 2 7 rfl (hall ⟨2, .data⟩ (by simp) rfl)
        clear hI hall hnot hcl
        refine .inl ⟨wanted_none rfl, ?_⟩
        unfold Oper.wp
        go_simp
        all_goals exact ⟨_, rfl, rfl, ⟨_, rfl⟩⟩
      · simp at hq; subst hq
        have g1 : act.tmps[1]?.getD undef = .pointer (some ⟨B', 0, none⟩) := hI.kept 1 (by kernel_rfl)
        clear hI hall hnot hcl
        refine .inl ⟨wanted_none rfl, ?_⟩
        unfold Oper.wp
        go_simp
        all_goals exact ⟨_, rfl, rfl, ⟨_, rfl⟩⟩
      · simp at hq; subst hq
        have g9 : act.tmps[9]?.getD undef = .pointer (some ⟨B', 0, none⟩) := hI.has 4 9 rfl (hall ⟨4, .data⟩ (by simp) rfl)
        clear hI hall hnot hcl
        refine .inl ⟨wanted_none rfl, ?_⟩
        unfold Oper.wp
        go_simp
        all_goals exact ⟨_, rfl, rfl, ⟨_, rfl⟩⟩
      · simp at hq; subst hq
        have g10 : act.tmps[10]?.getD undef = .pointer (some ⟨B', 0, none⟩) := hI.has 5 10 rfl (hall ⟨5, .data⟩ (by simp) rfl)
        clear hI hall hnot hcl
        refine .inl ⟨wanted_none rfl, ?_⟩
        unfold Oper.wp
        go_simp
        all_goals exact ⟨_, rfl, rfl, ⟨_, rfl⟩⟩
      · simp at hq; subst hq
        have g11 : act.tmps[11]?.getD undef = .pointer (some ⟨B', 0, none⟩) := hI.has 6 11 rfl (hall ⟨6, .data⟩ (by simp) rfl)
        clear hI hall hnot hcl
        refine .inl ⟨wanted_none rfl, ?_⟩
        unfold Oper.wp
        go_simp
        all_goals exact ⟨_, rfl, rfl, ⟨_, rfl⟩⟩
      · simp at hq; subst hq
        have g8 : act.tmps[8]?.getD undef = .slice A a.length ca := hI.has 3 8 rfl (hall ⟨3, .data⟩ (by simp) rfl)
        have g12 : act.tmps[12]?.getD undef = .slice A' a'.length ca' := hI.has 7 12 rfl (hall ⟨7, .data⟩ (by simp) rfl)
        clear hI hall hnot hcl
        refine .inl ⟨wanted_none rfl, ?_⟩
        unfold Oper.wp
        go_simp
        refine (Q1 _).out.mono ?_
        rintro e w4 ⟨rfl, n4, rfl⟩
        exact ⟨_, rfl, rfl, hdd _ _⟩
      · simp at hq; subst hq
        have g13 : act.tmps[13]?.getD undef = .bool false := hI.has 8 13 rfl (hall ⟨8, .data⟩ (by simp) rfl)
        clear hI hall hnot hcl
        refine .inl ⟨wanted_none rfl, ?_⟩
        unfold Oper.wp
        go_simp
        all_goals exact ⟨_, rfl, rfl, ⟨_, rfl⟩⟩
      · simp at hq; subst hq
        have gg : act.tmps[14]?.getD undef = .bool false := hI.has 9 14 rfl (hall ⟨9, .guard⟩ (by simp) rfl)
        clear hI hall hnot hcl
        exact .inr ⟨(wanted_of rfl rfl gg).trans rfl, rfl, ⟨_, rfl⟩⟩
      · simp at hq; subst hq
        have gg : act.tmps[14]?.getD undef = .bool false := hI.has 9 14 rfl (hall ⟨9, .guard⟩ (by simp) rfl)
        clear hI hall hnot hcl
        exact .inr ⟨(wanted_of rfl rfl gg).trans rfl, rfl, ⟨_, rfl⟩⟩
      · simp at hq; subst hq
        have gg : act.tmps[14]?.getD undef = .bool false := hI.has 9 14 rfl (hall ⟨9, .guard⟩ (by simp) rfl)
        clear hI hall hnot hcl
        exact .inr ⟨(wanted_of rfl rfl gg).trans rfl, rfl, ⟨_, rfl⟩⟩
      · simp at hq; subst hq
        have gg : act.tmps[14]?.getD undef = .bool false := hI.has 9 14 rfl (hall ⟨9, .guard⟩ (by simp) rfl)
        clear hI hall hnot hcl
        exact .inr ⟨(wanted_of rfl rfl gg).trans rfl, rfl, ⟨_, rfl⟩⟩
      · simp at hq; subst hq
        have gg : act.tmps[14]?.getD undef = .bool false := hI.has 9 14 rfl (hall ⟨9, .guard⟩ (by simp) rfl)
        clear hI hall hnot hcl
        exact .inr ⟨(wanted_of rfl rfl gg).trans rfl, rfl, ⟨_, rfl⟩⟩
      · simp at hq; subst hq
        have gg : act.tmps[14]?.getD undef = .bool false := hI.has 9 14 rfl (hall ⟨9, .guard⟩ (by simp) rfl)
        clear hI hall hnot hcl
        exact .inr ⟨(wanted_of rfl rfl gg).trans rfl, rfl, ⟨_, rfl⟩⟩
      · simp at hq; subst hq
        have gg : act.tmps[14]?.getD undef = .bool false := hI.has 9 14 rfl (hall ⟨9, .guard⟩ (by simp) rfl)
        clear hI hall hnot hcl
        exact .inr ⟨(wanted_of rfl rfl gg).trans rfl, rfl, ⟨_, rfl⟩⟩
      · simp at hq; subst hq
        have gg : act.tmps[14]?.getD undef = .bool false := hI.has 9 14 rfl (hall ⟨9, .guard⟩ (by simp) rfl)
        clear hI hall hnot hcl
        exact .inr ⟨(wanted_of rfl rfl gg).trans rfl, rfl, ⟨_, rfl⟩⟩
      · simp at hq; subst hq
        have gg : act.tmps[14]?.getD undef = .bool false := hI.has 9 14 rfl (hall ⟨9, .guard⟩ (by simp) rfl)
        clear hI hall hnot hcl
        exact .inr ⟨(wanted_of rfl rfl gg).trans rfl, rfl, ⟨_, rfl⟩⟩
      · simp at hq; subst hq
        have g14 : act.tmps[14]?.getD undef = .bool false := hI.has 9 14 rfl (hall ⟨9, .data⟩ (by simp) rfl)
        have g23 : act.tmps[23]?.getD undef = undef := hI.has 18 23 rfl (hall ⟨18, .data⟩ (by simp) rfl)
        clear hI hall hnot hcl
        refine .inl ⟨wanted_none rfl, ?_⟩
        unfold Oper.wp
        go_simp
        all_goals exact ⟨_, rfl, rfl, ⟨_, rfl⟩⟩
      · simp at hq; subst hq
        have g24 : act.tmps[24]?.getD undef = .bool false := hI.has 19 24 rfl (hall ⟨19, .data⟩ (by simp) rfl)
        clear hI hall hnot hcl
        refine .inl ⟨wanted_none rfl, ?_⟩
        unfold Oper.wp
        go_simp
        all_goals exact ⟨_, rfl, rfl, ⟨_, rfl⟩⟩
      · simp at hq; subst hq
        have gg : act.tmps[25]?.getD undef = .bool false := hI.has 20 25 rfl (hall ⟨20, .guard⟩ (by simp) rfl)
        clear hI hall hnot hcl
        exact .inr ⟨(wanted_of rfl rfl gg).trans rfl, rfl, ⟨_, rfl⟩⟩
      · simp at hq; subst hq
        have gg : act.tmps[25]?.getD undef = .bool false := hI.has 20 25 rfl (hall ⟨20, .guard⟩ (by simp) rfl)
        clear hI hall hnot hcl
        exact .inr ⟨(wanted_of rfl rfl gg).trans rfl, rfl, ⟨_, rfl⟩⟩
      · simp at hq; subst hq
        have gg : act.tmps[25]?.getD undef = .bool false := hI.has 20 25 rfl (hall ⟨20, .guard⟩ (by simp) rfl)
        clear hI hall hnot hcl
        exact .inr ⟨(wanted_of rfl rfl gg).trans rfl, rfl, ⟨_, rfl⟩⟩
      · simp at hq; subst hq
        have gg : act.tmps[25]?.getD undef = .bool false := hI.has 20 25 rfl (hall ⟨20, .guard⟩ (by simp) rfl)
        clear hI hall hnot hcl
        exact .inr ⟨(wanted_of rfl rfl gg).trans rfl, rfl, ⟨_, rfl⟩⟩
      · simp at hq; subst hq
        have gg : act.tmps[25]?.getD undef = .bool false := hI.has 20 25 rfl (hall ⟨20, .guard⟩ (by simp) rfl)
        clear hI hall hnot hcl
        exact .inr ⟨(wanted_of rfl rfl gg).trans rfl, rfl, ⟨_, rfl⟩⟩
      · simp at hq; subst hq
        have gg : act.tmps[25]?.getD undef = .bool false := hI.has 20 25 rfl (hall ⟨20, .guard⟩ (by simp) rfl)
        clear hI hall hnot hcl
        exact .inr ⟨(wanted_of rfl rfl gg).trans rfl, rfl, ⟨_, rfl⟩⟩
      · simp at hq; subst hq
        have gg : act.tmps[25]?.getD undef = .bool false := hI.has 20 25 rfl (hall ⟨20, .guard⟩ (by simp) rfl)
        clear hI hall hnot hcl
        exact .inr ⟨(wanted_of rfl rfl gg).trans rfl, rfl, ⟨_, rfl⟩⟩
      · simp at hq; subst hq
        have gg : act.tmps[25]?.getD undef = .bool false := hI.has 20 25 rfl (hall ⟨20, .guard⟩ (by simp) rfl)
        clear hI hall hnot hcl
        exact .inr ⟨(wanted_of rfl rfl gg).trans rfl, rfl, ⟨_, rfl⟩⟩
      · simp at hq; subst hq
        have gg : act.tmps[25]?.getD undef = .bool false := hI.has 20 25 rfl (hall ⟨20, .guard⟩ (by simp) rfl)
        clear hI hall hnot hcl
        exact .inr ⟨(wanted_of rfl rfl gg).trans rfl, rfl, ⟨_, rfl⟩⟩
      · simp at hq; subst hq
        have g25 : act.tmps[25]?.getD undef = .bool false := hI.has 20 25 rfl (hall ⟨20, .data⟩ (by simp) rfl)
        have g34 : act.tmps[34]?.getD undef = undef := hI.has 29 34 rfl (hall ⟨29, .data⟩ (by simp) rfl)
        clear hI hall hnot hcl
        refine .inl ⟨wanted_none rfl, ?_⟩
        unfold Oper.wp
        go_simp
        all_goals exact ⟨_, rfl, rfl, ⟨_, rfl⟩⟩
      · simp at hq; subst hq
        have g35 : act.tmps[35]?.getD undef = .bool false := hI.has 30 35 rfl (hall ⟨30, .data⟩ (by simp) rfl)
        clear hI hall hnot hcl
        refine .inl ⟨wanted_none rfl, ?_⟩
        unfold Oper.wp
        go_simp
        all_goals exact ⟨_, rfl, rfl, ⟨_, rfl⟩⟩
      · simp at hq
    case hend =>
      intro listed act w3 hI hall
      obtain ⟨nn, rfl⟩ := hI.cls
      have g4 : act.tmps[4]?.getD undef = .bool false := hI.has 31 4 rfl (hall 31 (by decide))
      have hd := hI.defers
      clear hI hall
      go_wp2
      refine bodyPost_ret (v := .bool false) (by simp [results, Try.results209, g4, go_sem]) (by first | rfl | exact hd) ⟨by rw [HE.out]; rfl, nn, rfl⟩
  · cases y
    · go_enter Try.func209, Try.ntmps209
      go_wp2_with fail
      refine wp_region_inv3 (fun q0 v => match q0 with
        | 0 => v = .pointer (some ⟨B, 0, none⟩)
        | 1 => v = .pointer (some ⟨B, 0, none⟩)
        | 2 => v = .pointer (some ⟨B, 0, none⟩)
        | 3 => v = .slice A a.length ca
        | 4 => v = .pointer (some ⟨B', 0, none⟩)
        | 5 => v = .pointer (some ⟨B', 0, none⟩)
        | 6 => v = .pointer (some ⟨B', 0, none⟩)
        | 7 => v = .slice A' a'.length ca'
        | 8 => v = .bool true
        | 9 => v = .bool true
        | 10 => v = .pointer (some ⟨B, 0, none⟩)
        | 11 => v = .pointer (some ⟨B, 0, none⟩)
        | 12 => v = .pointer (some ⟨B, 1, none⟩)
        | 13 => v = .slice L l.length cl
        | 14 => v = .pointer (some ⟨B', 0, none⟩)
        | 15 => v = .pointer (some ⟨B', 0, none⟩)
        | 16 => v = .pointer (some ⟨B', 1, none⟩)
        | 17 => v = .slice L' l'.length cl'
        | 18 => v = .bool false
        | 19 => v = .bool false
        | 20 => v = .bool false
        | 21 => v = undef
        | 22 => v = undef
        | 23 => v = undef
        | 24 => v = undef
        | 25 => v = undef
        | 26 => v = undef
        | 27 => v = undef
        | 28 => v = undef
        | 29 => v = undef
        | 30 => v = .bool false
        | 31 => v = .bool false
        | _ => False) (fun _ ww => ∃ nn, ww = w.drewN nn) (by kernel_rfl) (by kernel_rfl) ⟨1, rfl⟩ ?hop ?hend
      case hop =>
        intro q o hq listed act w3 hI hnot hcl hall
        obtain ⟨nn, rfl⟩ := hI.cls
        rcases q with _ | _ | _ | _ | _ | _ | _ | _ | _ | _ | _ | _ | _ | _ | _ | _ | _ | _ | _ | _ | _ | _ | _ | _ | _ | _ | _ | _ | _ | _ | _ | _ | q
        · simp at hq; subst hq
          have g0 : act.tmps[0]?.getD undef = .pointer (some ⟨B, 0, none⟩) := hI.kept 0 (by kernel_rfl)
          clear hI hall hnot hcl
          refine .inl ⟨wanted_none rfl, ?_⟩
          unfold Oper.wp
          go_simp
          all_goals exact ⟨_, rfl, rfl, ⟨_, rfl⟩⟩
        · simp at hq; subst hq
          have g5 : act.tmps[5]?.getD undef = .pointer (some ⟨B, 0, none⟩) := hI.has 0 5 rfl (hall ⟨0, .data⟩ (by simp) rfl)
          clear hI hall hnot hcl
          refine .inl ⟨wanted_none rfl, ?_⟩
          unfold Oper.wp
          go_simp
          all_goals exact ⟨_, rfl, rfl, ⟨_, rfl⟩⟩
        · simp at hq; subst hq
          have g6 : act.tmps[6]?.getD undef = .pointer (some ⟨B, 0, none⟩) := hI.has 1 6 rfl (hall ⟨1, .data⟩ (by simp) rfl)
          clear hI hall hnot hcl
          refine .inl ⟨wanted_none rfl, ?_⟩
          unfold Oper.wp
          go_simp
          all_goals exact ⟨_, rfl, rfl, ⟨_, rfl⟩⟩
        · simp at hq; subst hq
          have g7 : act.tmps[7]?.getD undef = .pointer (some ⟨B, 0, none⟩) := hI.has 2 7 rfl (hall ⟨2, .data⟩ (by simp) rfl)
          clear hI hall hnot hcl
          refine .inl ⟨wanted_none rfl, ?_⟩
          unfold Oper.wp
          go_simp
          all_goals exact ⟨_, rfl, rfl, ⟨_, rfl⟩⟩
        · simp at hq; subst hq
          have g1 : act.tmps[1]?.getD undef = .pointer (some ⟨B', 0, none⟩) := hI.kept 1 (by kernel_rfl)
          clear hI hall hnot hcl
          refine .inl ⟨wanted_none rfl, ?_⟩
          unfold Oper.wp
          go_simp
          all_goals exact ⟨_, rfl, rfl, ⟨_, rfl⟩⟩
        · simp at hq; subst hq
          have g9 : act.tmps[9]?.getD undef = .pointer (some ⟨B', 0, none⟩) := hI.has 4 9 rfl (hall ⟨4, .data⟩ (by simp) rfl)
          clear hI hall hnot hcl
          refine .inl ⟨wanted_none rfl, ?_⟩
          unfold Oper.wp
          go_simp
          all_goals exact ⟨_, rfl, rfl, ⟨_, rfl⟩⟩
        · simp at hq; subst hq
          have g10 : act.tmps[10]?.getD undef = .pointer (some ⟨B', 0, none⟩) := hI.has 5 10 rfl (hall ⟨5, .data⟩ (by simp) rfl)
          clear hI hall hnot hcl
          refine .inl ⟨wanted_none rfl, ?_⟩
          unfold Oper.wp
          go_simp
          all_goals exact ⟨_, rfl, rfl, ⟨_, rfl⟩⟩
        · simp at hq; subst hq
          have g11 : act.tmps[11]?.getD undef = .pointer (some ⟨B', 0, none⟩) := hI.has 6 11 rfl (hall ⟨6, .data⟩ (by simp) rfl)
          clear hI hall hnot hcl
          refine .inl ⟨wanted_none rfl, ?_⟩
          unfold Oper.wp
          go_simp
          all_goals exact ⟨_, rfl, rfl, ⟨_, rfl⟩⟩
        · simp at hq; subst hq
          have g8 : act.tmps[8]?.getD undef = .slice A a.length ca := hI.has 3 8 rfl (hall ⟨3, .data⟩ (by simp) rfl)
          have g12 : act.tmps[12]?.getD undef = .slice A' a'.length ca' := hI.has 7 12 rfl (hall ⟨7, .data⟩ (by simp) rfl)
          clear hI hall hnot hcl
          refine .inl ⟨wanted_none rfl, ?_⟩
          unfold Oper.wp
          go_simp
          refine (Q1 _).out.mono ?_
          rintro e w4 ⟨rfl, n4, rfl⟩
          exact ⟨_, rfl, rfl, hdd _ _⟩
        · simp at hq; subst hq
          have g13 : act.tmps[13]?.getD undef = .bool true := hI.has 8 13 rfl (hall ⟨8, .data⟩ (by simp) rfl)
          clear hI hall hnot hcl
          refine .inl ⟨wanted_none rfl, ?_⟩
          unfold Oper.wp
          go_simp
          all_goals exact ⟨_, rfl, rfl, ⟨_, rfl⟩⟩
        · simp at hq; subst hq
          have gg : act.tmps[14]?.getD undef = .bool true := hI.has 9 14 rfl (hall ⟨9, .guard⟩ (by simp) rfl)
          have g0 : act.tmps[0]?.getD undef = .pointer (some ⟨B, 0, none⟩) := hI.kept 0 (by kernel_rfl)
          clear hI hall hnot hcl
          refine .inl ⟨(wanted_of rfl rfl gg).trans rfl, ?_⟩
          clear gg
          unfold Oper.wp
          go_simp
          all_goals exact ⟨_, rfl, rfl, ⟨_, rfl⟩⟩
        · simp at hq; subst hq
          have gg : act.tmps[14]?.getD undef = .bool true := hI.has 9 14 rfl (hall ⟨9, .guard⟩ (by simp) rfl)
          have g15 : act.tmps[15]?.getD undef = .pointer (some ⟨B, 0, none⟩) := hI.has 10 15 rfl (hall ⟨10, .data⟩ (by simp) rfl)
          clear hI hall hnot hcl
          refine .inl ⟨(wanted_of rfl rfl gg).trans rfl, ?_⟩
          clear gg
          unfold Oper.wp
          go_simp
          all_goals exact ⟨_, rfl, rfl, ⟨_, rfl⟩⟩
        · simp at hq; subst hq
          have gg : act.tmps[14]?.getD undef = .bool true := hI.has 9 14 rfl (hall ⟨9, .guard⟩ (by simp) rfl)
          have g16 : act.tmps[16]?.getD undef = .pointer (some ⟨B, 0, none⟩) := hI.has 11 16 rfl (hall ⟨11, .data⟩ (by simp) rfl)
          clear hI hall hnot hcl
          refine .inl ⟨(wanted_of rfl rfl gg).trans rfl, ?_⟩
          clear gg
          unfold Oper.wp
          go_simp
          all_goals exact ⟨_, rfl, rfl, ⟨_, rfl⟩⟩
        · simp at hq; subst hq
          have gg : act.tmps[14]?.getD undef = .bool true := hI.has 9 14 rfl (hall ⟨9, .guard⟩ (by simp) rfl)
          have g17 : act.tmps[17]?.getD undef = .pointer (some ⟨B, 1, none⟩) := hI.has 12 17 rfl (hall ⟨12, .data⟩ (by simp) rfl)
          clear hI hall hnot hcl
          refine .inl ⟨(wanted_of rfl rfl gg).trans rfl, ?_⟩
          clear gg
          unfold Oper.wp
          go_simp
          all_goals exact ⟨_, rfl, rfl, ⟨_, rfl⟩⟩
        · simp at hq; subst hq
          have gg : act.tmps[14]?.getD undef = .bool true := hI.has 9 14 rfl (hall ⟨9, .guard⟩ (by simp) rfl)
          have g1 : act.tmps[1]?.getD undef = .pointer (some ⟨B', 0, none⟩) := hI.kept 1 (by kernel_rfl)
          clear hI hall hnot hcl
          refine .inl ⟨(wanted_of rfl rfl gg).trans rfl, ?_⟩
          clear gg
          unfold Oper.wp
          go_simp
          all_goals exact ⟨_, rfl, rfl, ⟨_, rfl⟩⟩
        · simp at hq; subst hq
          have gg : act.tmps[14]?.getD undef = .bool true := hI.has 9 14 rfl (hall ⟨9, .guard⟩ (by simp) rfl)
          have g19 : act.tmps[19]?.getD undef = .pointer (some ⟨B', 0, none⟩) := hI.has 14 19 rfl (hall ⟨14, .data⟩ (by simp) rfl)
          clear hI hall hnot hcl
          refine .inl ⟨(wanted_of rfl rfl gg).trans rfl, ?_⟩
          clear gg
          unfold Oper.wp
          go_simp
          all_goals exact ⟨_, rfl, rfl, ⟨_, rfl⟩⟩
        · simp at hq; subst hq
          have gg : act.tmps[14]?.getD undef = .bool true := hI.has 9 14 rfl (hall ⟨9, .guard⟩ (by simp) rfl)
          have g20 : act.tmps[20]?.getD undef = .pointer (some ⟨B', 0, none⟩) := hI.has 15 20 rfl (hall ⟨15, .data⟩ (by simp) rfl)
          clear hI hall hnot hcl
          refine .inl ⟨(wanted_of rfl rfl gg).trans rfl, ?_⟩
          clear gg
          unfold Oper.wp
          go_simp
          all_goals exact ⟨_, rfl, rfl, ⟨_, rfl⟩⟩
        · simp at hq; subst hq
          have gg : act.tmps[14]?.getD undef = .bool true := hI.has 9 14 rfl (hall ⟨9, .guard⟩ (by simp) rfl)
          have g21 : act.tmps[21]?.getD undef = .pointer (some ⟨B', 1, none⟩) := hI.has 16 21 rfl (hall ⟨16, .data⟩ (by simp) rfl)
          clear hI hall hnot hcl
          refine .inl ⟨(wanted_of rfl rfl gg).trans rfl, ?_⟩
          clear gg
          unfold Oper.wp
          go_simp
          all_goals exact ⟨_, rfl, rfl, ⟨_, rfl⟩⟩
        · simp at hq; subst hq
          have gg : act.tmps[14]?.getD undef = .bool true := hI.has 9 14 rfl (hall ⟨9, .guard⟩ (by simp) rfl)
          have g18 : act.tmps[18]?.getD undef = .slice L l.length cl := hI.has 13 18 rfl (hall ⟨13, .data⟩ (by simp) rfl)
          have g22 : act.tmps[22]?.getD undef = .slice L' l'.length cl' := hI.has 17 22 rfl (hall ⟨17, .data⟩ (by simp) rfl)
          clear hI hall hnot hcl
          refine .inl ⟨(wanted_of rfl rfl gg).trans rfl, ?_⟩
          clear gg
          unfold Oper.wp
          go_simp
          refine (Q2 _).out.mono ?_
          rintro e w4 ⟨rfl, n4, rfl⟩
          exact ⟨_, rfl, rfl, hdd _ _⟩
        · simp at hq; subst hq
          have g14 : act.tmps[14]?.getD undef = .bool true := hI.has 9 14 rfl (hall ⟨9, .data⟩ (by simp) rfl)
          have g23 : act.tmps[23]?.getD undef = .bool false := hI.has 18 23 rfl (hall ⟨18, .data⟩ (by simp) rfl)
          clear hI hall hnot hcl
          refine .inl ⟨wanted_none rfl, ?_⟩
          unfold Oper.wp
          go_simp
          all_goals exact ⟨_, rfl, rfl, ⟨_, rfl⟩⟩
        · simp at hq; subst hq
          have g24 : act.tmps[24]?.getD undef = .bool false := hI.has 19 24 rfl (hall ⟨19, .data⟩ (by simp) rfl)
          clear hI hall hnot hcl
          refine .inl ⟨wanted_none rfl, ?_⟩
          unfold Oper.wp
          go_simp
          all_goals exact ⟨_, rfl, rfl, ⟨_, rfl⟩⟩
        · simp at hq; subst hq
          have gg : act.tmps[25]?.getD undef = .bool false := hI.has 20 25 rfl (hall ⟨20, .guard⟩ (by simp) rfl)
          clear hI hall hnot hcl
          exact .inr ⟨(wanted_of rfl rfl gg).trans rfl, rfl, ⟨_, rfl⟩⟩
        · simp at hq; subst hq
          have gg : act.tmps[25]?.getD undef = .bool false := hI.has 20 25 rfl (hall ⟨20, .guard⟩ (by simp) rfl)
          clear hI hall hnot hcl
          exact .inr ⟨(wanted_of rfl rfl gg).trans rfl, rfl, ⟨_, rfl⟩⟩
        · simp at hq; subst hq
          have gg : act.tmps[25]?.getD undef = .bool false := hI.has 20 25 rfl (hall ⟨20, .guard⟩ (by simp) rfl)
          clear hI hall hnot hcl
          exact .inr ⟨(wanted_of rfl rfl gg).trans rfl, rfl, ⟨_, rfl⟩⟩
        · simp at hq; subst hq
          have gg : act.tmps[25]?.getD undef = .bool false := hI.has 20 25 rfl (hall ⟨20, .guard⟩ (by simp) rfl)
          clear hI hall hnot hcl
          exact .inr ⟨(wanted_of rfl rfl gg).trans rfl, rfl, ⟨_, rfl⟩⟩
        · simp at hq; subst hq
          have gg : act.tmps[25]?.getD undef = .bool false := hI.has 20 25 rfl (hall ⟨20, .guard⟩ (by simp) rfl)
          clear hI hall hnot hcl
          exact .inr ⟨(wanted_of rfl rfl gg).trans rfl, rfl, ⟨_, rfl⟩⟩
        · simp at hq; subst hq
          have gg : act.tmps[25]?.getD undef = .bool false := hI.has 20 25 rfl (hall ⟨20, .guard⟩ (by simp) rfl)
          clear hI hall hnot hcl
          exact .inr ⟨(wanted_of rfl rfl gg).trans rfl, rfl, ⟨_, rfl⟩⟩
        · simp at hq; subst hq
          have gg : act.tmps[25]?.getD undef = .bool false := hI.has 20 25 rfl (hall ⟨20, .guard⟩ (by simp) rfl)
          clear hI hall hnot hcl
          exact .inr ⟨(wanted_of rfl rfl gg).trans rfl, rfl, ⟨_, rfl⟩⟩
        · simp at hq; subst hq
          have gg : act.tmps[25]?.getD undef = .bool false := hI.has 20 25 rfl (hall ⟨20, .guard⟩ (by simp) rfl)
          clear hI hall hnot hcl
          exact .inr ⟨(wanted_of rfl rfl gg).trans rfl, rfl, ⟨_, rfl⟩⟩
        · simp at hq; subst hq
          have gg : act.tmps[25]?.getD undef = .bool false := hI.has 20 25 rfl (hall ⟨20, .guard⟩ (by simp) rfl)
          clear hI hall hnot hcl
          exact .inr ⟨(wanted_of rfl rfl gg).trans rfl, rfl, ⟨_, rfl⟩⟩
        · simp at hq; subst hq
          have g25 : act.tmps[25]?.getD undef = .bool false := hI.has 20 25 rfl (hall ⟨20, .data⟩ (by simp) rfl)
          have g34 : act.tmps[34]?.getD undef = undef := hI.has 29 34 rfl (hall ⟨29, .data⟩ (by simp) rfl)
          clear hI hall hnot hcl
          refine .inl ⟨wanted_none rfl, ?_⟩
          unfold Oper.wp
          go_simp
          all_goals exact ⟨_, rfl, rfl, ⟨_, rfl⟩⟩
        · simp at hq; subst hq
          have g35 : act.tmps[35]?.getD undef = .bool false := hI.has 30 35 rfl (hall ⟨30, .data⟩ (by simp) rfl)
          clear hI hall hnot hcl
          refine .inl ⟨wanted_none rfl, ?_⟩
          unfold Oper.wp
          go_simp
          all_goals exact ⟨_, rfl, rfl, ⟨_, rfl⟩⟩
        · simp at hq
      case hend =>
        intro listed act w3 hI hall
        obtain ⟨nn, rfl⟩ := hI.cls
        have g4 : act.tmps[4]?.getD undef = .bool false := hI.has 31 4 rfl (hall 31 (by decide))
        have hd := hI.defers
        clear hI hall
        go_wp2
        refine bodyPost_ret (v := .bool false) (by simp [results, Try.results209, g4, go_sem]) (by first | rfl | exact hd) ⟨by rw [HE.out]; rfl, nn, rfl⟩
    · go_enter Try.func209, Try.ntmps209
      go_wp2_with fail
      refine wp_region_inv3 (fun q0 v => match q0 with
        | 0 => v = .pointer (some ⟨B, 0, none⟩)
        | 1 => v = .pointer (some ⟨B, 0, none⟩)
        | 2 => v = .pointer (some ⟨B, 0, none⟩)
        | 3 => v = .slice A a.length ca
        | 4 => v = .pointer (some ⟨B', 0, none⟩)
        | 5 => v = .pointer (some ⟨B', 0, none⟩)
        | 6 => v = .pointer (some ⟨B', 0, none⟩)
        | 7 => v = .slice A' a'.length ca'
        | 8 => v = .bool true
        | 9 => v = .bool true
        | 10 => v = .pointer (some ⟨B, 0, none⟩)
        | 11 => v = .pointer (some ⟨B, 0, none⟩)
        | 12 => v = .pointer (some ⟨B, 1, none⟩)
        | 13 => v = .slice L l.length cl
        | 14 => v = .pointer (some ⟨B', 0, none⟩)
        | 15 => v = .pointer (some ⟨B', 0, none⟩)
        | 16 => v = .pointer (some ⟨B', 1, none⟩)
        | 17 => v = .slice L' l'.length cl'
        | 18 => v = .bool true
        | 19 => v = .bool true
        | 20 => v = .bool true
        | 21 => v = .pointer (some ⟨B, 0, none⟩)
        | 22 => v = .pointer (some ⟨B, 0, none⟩)
        | 23 => v = .pointer (some ⟨B, 2, none⟩)
        | 24 => v = .slice D d.length cd
        | 25 => v = .pointer (some ⟨B', 0, none⟩)
        | 26 => v = .pointer (some ⟨B', 0, none⟩)
        | 27 => v = .pointer (some ⟨B', 2, none⟩)
        | 28 => v = .slice D' d'.length cd'
        | 29 => v = .bool z
        | 30 => v = .bool z
        | 31 => v = .bool z
        | _ => False) (fun _ ww => ∃ nn, ww = w.drewN nn) (by kernel_rfl) (by kernel_rfl) ⟨1, rfl⟩ ?hop ?hend
      case hop =>
        intro q o hq listed act w3 hI hnot hcl hall
        obtain ⟨nn, rfl⟩ := hI.cls
        rcases q with _ | _ | _ | _ | _ | _ | _ | _ | _ | _ | _ | _ | _ | _ | _ | _ | _ | _ | _ | _ | _ | _ | _ | _ | _ | _ | _ | _ | _ | _ | _ | _ | q
        · simp at hq; subst hq
          have g0 : act.tmps[0]?.getD undef = .pointer (some ⟨B, 0, none⟩) := hI.kept 0 (by kernel_rfl)
          clear hI hall hnot hcl
          refine .inl ⟨wanted_none rfl, ?_⟩
          unfold Oper.wp
          go_simp
          all_goals exact ⟨_, rfl, rfl, ⟨_, rfl⟩⟩
        · simp at hq; subst hq
          have g5 : act.tmps[5]?.getD undef = .pointer (some ⟨B, 0, none⟩) := hI.has 0 5 rfl (hall ⟨0, .data⟩ (by simp) rfl)
          clear hI hall hnot hcl
          refine .inl ⟨wanted_none rfl, ?_⟩
          unfold Oper.wp
          go_simp
          all_goals exact ⟨_, rfl, rfl, ⟨_, rfl⟩⟩
        · simp at hq; subst hq
          have g6 : act.tmps[6]?.getD undef = .pointer (some ⟨B, 0, none⟩) := hI.has 1 6 rfl (hall ⟨1, .data⟩ (by simp) rfl)
          clear hI hall hnot hcl
          refine .inl ⟨wanted_none rfl, ?_⟩
          unfold Oper.wp
          go_simp
          all_goals exact ⟨_, rfl, rfl, ⟨_, rfl⟩⟩
        · simp at hq; subst hq
          have g7 : act.tmps[7]?.getD undef = .pointer (some ⟨B, 0, none⟩) := hI.has 2 7 rfl (hall ⟨2, .data⟩ (by simp) rfl)
          clear hI hall hnot hcl
          refine .inl ⟨wanted_none rfl, ?_⟩
          unfold Oper.wp
          go_simp
          all_goals exact ⟨_, rfl, rfl, ⟨_, rfl⟩⟩
        · simp at hq; subst hq
          have g1 : act.tmps[1]?.getD undef = .pointer (some ⟨B', 0, none⟩) := hI.kept 1 (by kernel_rfl)
          clear hI hall hnot hcl
          refine .inl ⟨wanted_none rfl, ?_⟩
          unfold Oper.wp
          go_simp
          all_goals exact ⟨_, rfl, rfl, ⟨_, rfl⟩⟩
        · simp at hq; subst hq
          have g9 : act.tmps[9]?.getD undef = .pointer (some ⟨B', 0, none⟩) := hI.has 4 9 rfl (hall ⟨4, .data⟩ (by simp) rfl)
          clear hI hall hnot hcl
          refine .inl ⟨wanted_none rfl, ?_⟩
          unfold Oper.wp
          go_simp
          all_goals exact ⟨_, rfl, rfl, ⟨_, rfl⟩⟩
        · simp at hq; subst hq
          have g10 : act.tmps[10]?.getD undef = .pointer (some ⟨B', 0, none⟩) := hI.has 5 10 rfl (hall ⟨5, .data⟩ (by simp) rfl)
          clear hI hall hnot hcl
          refine .inl ⟨wanted_none rfl, ?_⟩
          unfold Oper.wp
          go_simp
          all_goals exact ⟨_, rfl, rfl, ⟨_, rfl⟩⟩
        · simp at hq; subst hq
          have g11 : act.tmps[11]?.getD undef = .pointer (some ⟨B', 0, none⟩) := hI.has 6 11 rfl (hall ⟨6, .data⟩ (by simp) rfl)
          clear hI hall hnot hcl
          refine .inl ⟨wanted_none rfl, ?_⟩
          unfold Oper.wp
          go_simp
          all_goals exact ⟨_, rfl, rfl, ⟨_, rfl⟩⟩
        · simp at hq; subst hq
          have g8 : act.tmps[8]?.getD undef = .slice A a.length ca := hI.has 3 8 rfl (hall ⟨3, .data⟩ (by simp) rfl)
          have g12 : act.tmps[12]?.getD undef = .slice A' a'.length ca' := hI.has 7 12 rfl (hall ⟨7, .data⟩ (by simp) rfl)
          clear hI hall hnot hcl
          refine .inl ⟨wanted_none rfl, ?_⟩
          unfold Oper.wp
          go_simp
          refine (Q1 _).out.mono ?_
          rintro e w4 ⟨rfl, n4, rfl⟩
          exact ⟨_, rfl, rfl, hdd _ _⟩
        · simp at hq; subst hq
          have g13 : act.tmps[13]?.getD undef = .bool true := hI.has 8 13 rfl (hall ⟨8, .data⟩ (by simp) rfl)
          clear hI hall hnot hcl
          refine .inl ⟨wanted_none rfl, ?_⟩
          unfold Oper.wp
          go_simp
          all_goals exact ⟨_, rfl, rfl, ⟨_, rfl⟩⟩
        · simp at hq; subst hq
          have gg : act.tmps[14]?.getD undef = .bool true := hI.has 9 14 rfl (hall ⟨9, .guard⟩ (by simp) rfl)
          have g0 : act.tmps[0]?.getD undef = .pointer (some ⟨B, 0, none⟩) := hI.kept 0 (by kernel_rfl)
          clear hI hall hnot hcl
          refine .inl ⟨(wanted_of rfl rfl gg).trans rfl, ?_⟩
          clear gg
          unfold Oper.wp
          go_simp
          all_goals exact ⟨_, rfl, rfl, ⟨_, rfl⟩⟩
        · simp at hq; subst hq
          have gg : act.tmps[14]?.getD undef = .bool true := hI.has 9 14 rfl (hall ⟨9, .guard⟩ (by simp) rfl)
          have g15 : act.tmps[15]?.getD undef = .pointer (some ⟨B, 0, none⟩) := hI.has 10 15 rfl (hall ⟨10, .data⟩ (by simp) rfl)
          clear hI hall hnot hcl
          refine .inl ⟨(wanted_of rfl rfl gg).trans rfl, ?_⟩
          clear gg
          unfold Oper.wp
          go_simp
          all_goals exact ⟨_, rfl, rfl, ⟨_, rfl⟩⟩
        · simp at hq; subst hq
          have gg : act.tmps[14]?.getD undef = .bool true := hI.has 9 14 rfl (hall ⟨9, .guard⟩ (by simp) rfl)
          have g16 : act.tmps[16]?.getD undef = .pointer (some ⟨B, 0, none⟩) := hI.has 11 16 rfl (hall ⟨11, .data⟩ (by simp) rfl)
          clear hI hall hnot hcl
          refine .inl ⟨(wanted_of rfl rfl gg).trans rfl, ?_⟩
          clear gg
          unfold Oper.wp
          go_simp
          all_goals exact ⟨_, rfl, rfl, ⟨_, rfl⟩⟩
        · simp at hq; subst hq
          have gg : act.tmps[14]?.getD undef = .bool true := hI.has 9 14 rfl (hall ⟨9, .guard⟩ (by simp) rfl)
          have g17 : act.tmps[17]?.getD undef = .pointer (some ⟨B, 1, none⟩) := hI.has 12 17 rfl (hall ⟨12, .data⟩ (by simp) rfl)
          clear hI hall hnot hcl
          refine .inl ⟨(wanted_of rfl rfl gg).trans rfl, ?_⟩
          clear gg
          unfold Oper.wp
          go_simp
          all_goals exact ⟨_, rfl, rfl, ⟨_, rfl⟩⟩
        · simp at hq; subst hq
          have gg : act.tmps[14]?.getD undef = .bool true := hI.has 9 14 rfl (hall ⟨9, .guard⟩ (by simp) rfl)
          have g1 : act.tmps[1]?.getD undef = .pointer (some ⟨B', 0, none⟩) := hI.kept 1 (by kernel_rfl)
          clear hI hall hnot hcl
          refine .inl ⟨(wanted_of rfl rfl gg).trans rfl, ?_⟩
          clear gg
          unfold Oper.wp
          go_simp
          all_goals exact ⟨_, rfl, rfl, ⟨_, rfl⟩⟩
        · simp at hq; subst hq
          have gg : act.tmps[14]?.getD undef = .bool true := hI.has 9 14 rfl (hall ⟨9, .guard⟩ (by simp) rfl)
          have g19 : act.tmps[19]?.getD undef = .pointer (some ⟨B', 0, none⟩) := hI.has 14 19 rfl (hall ⟨14, .data⟩ (by simp) rfl)
          clear hI hall hnot hcl
          refine .inl ⟨(wanted_of rfl rfl gg).trans rfl, ?_⟩
          clear gg
          unfold Oper.wp
          go_simp
          all_goals exact ⟨_, rfl, rfl, ⟨_, rfl⟩⟩
        · simp at hq; subst hq
          have gg : act.tmps[14]?.getD undef = .bool true := hI.has 9 14 rfl (hall ⟨9, .guard⟩ (by simp) rfl)
          have g20 : act.tmps[20]?.getD undef = .pointer (some ⟨B', 0, none⟩) := hI.has 15 20 rfl (hall ⟨15, .data⟩ (by simp) rfl)
          clear hI hall hnot hcl
          refine .inl ⟨(wanted_of rfl rfl gg).trans rfl, ?_⟩
          clear gg
          unfold Oper.wp
          go_simp
          all_goals exact ⟨_, rfl, rfl, ⟨_, rfl⟩⟩
        · simp at hq; subst hq
          have gg : act.tmps[14]?.getD undef = .bool true := hI.has 9 14 rfl (hall ⟨9, .guard⟩ (by simp) rfl)
          have g21 : act.tmps[21]?.getD undef = .pointer (some ⟨B', 1, none⟩) := hI.has 16 21 rfl (hall ⟨16, .data⟩ (by simp) rfl)
          clear hI hall hnot hcl
          refine .inl ⟨(wanted_of rfl rfl gg).trans rfl, ?_⟩
          clear gg
          unfold Oper.wp
          go_simp
          all_goals exact ⟨_, rfl, rfl, ⟨_, rfl⟩⟩
        · simp at hq; subst hq
          have gg : act.tmps[14]?.getD undef = .bool true := hI.has 9 14 rfl (hall ⟨9, .guard⟩ (by simp) rfl)
          have g18 : act.tmps[18]?.getD undef = .slice L l.length cl := hI.has 13 18 rfl (hall ⟨13, .data⟩ (by simp) rfl)
          have g22 : act.tmps[22]?.getD undef = .slice L' l'.length cl' := hI.has 17 22 rfl (hall ⟨17, .data⟩ (by simp) rfl)
          clear hI hall hnot hcl
          refine .inl ⟨(wanted_of rfl rfl gg).trans rfl, ?_⟩
          clear gg
          unfold Oper.wp
          go_simp
          refine (Q2 _).out.mono ?_
          rintro e w4 ⟨rfl, n4, rfl⟩
          exact ⟨_, rfl, rfl, hdd _ _⟩
        · simp at hq; subst hq
          have g14 : act.tmps[14]?.getD undef = .bool true := hI.has 9 14 rfl (hall ⟨9, .data⟩ (by simp) rfl)
          have g23 : act.tmps[23]?.getD undef = .bool true := hI.has 18 23 rfl (hall ⟨18, .data⟩ (by simp) rfl)
          clear hI hall hnot hcl
          refine .inl ⟨wanted_none rfl, ?_⟩
          unfold Oper.wp
          go_simp
          all_goals exact ⟨_, rfl, rfl, ⟨_, rfl⟩⟩
        · simp at hq; subst hq
          have g24 : act.tmps[24]?.getD undef = .bool true := hI.has 19 24 rfl (hall ⟨19, .data⟩ (by simp) rfl)
          clear hI hall hnot hcl
          refine .inl ⟨wanted_none rfl, ?_⟩
          unfold Oper.wp
          go_simp
          all_goals exact ⟨_, rfl, rfl, ⟨_, rfl⟩⟩
        · simp at hq; subst hq
          have gg : act.tmps[25]?.getD undef = .bool true := hI.has 20 25 rfl (hall ⟨20, .guard⟩ (by simp) rfl)
          have g0 : act.tmps[0]?.getD undef = .pointer (some ⟨B, 0, none⟩) := hI.kept 0 (by kernel_rfl)
          clear hI hall hnot hcl
          refine .inl ⟨(wanted_of rfl rfl gg).trans rfl, ?_⟩
          clear gg
          unfold Oper.wp
          go_simp
          all_goals exact ⟨_, rfl, rfl, ⟨_, rfl⟩⟩
        · simp at hq; subst hq
          have gg : act.tmps[25]?.getD undef = .bool true := hI.has 20 25 rfl (hall ⟨20, .guard⟩ (by simp) rfl)
          have g26 : act.tmps[26]?.getD undef = .pointer (some ⟨B, 0, none⟩) := hI.has 21 26 rfl (hall ⟨21, .data⟩ (by simp) rfl)
          clear hI hall hnot hcl
          refine .inl ⟨(wanted_of rfl rfl gg).trans rfl, ?_⟩
          clear gg
          unfold Oper.wp
          go_simp
          all_goals exact ⟨_, rfl, rfl, ⟨_, rfl⟩⟩
        · simp at hq; subst hq
          have gg : act.tmps[25]?.getD undef = .bool true := hI.has 20 25 rfl (hall ⟨20, .guard⟩ (by simp) rfl)
          have g27 : act.tmps[27]?.getD undef = .pointer (some ⟨B, 0, none⟩) := hI.has 22 27 rfl (hall ⟨22, .data⟩ (by simp) rfl)
          clear hI hall hnot hcl
          refine .inl ⟨(wanted_of rfl rfl gg).trans rfl, ?_⟩
          clear gg
          unfold Oper.wp
          go_simp
          all_goals exact ⟨_, rfl, rfl, ⟨_, rfl⟩⟩
        · simp at hq; subst hq
          have gg : act.tmps[25]?.getD undef = .bool true := hI.has 20 25 rfl (hall ⟨20, .guard⟩ (by simp) rfl)
          have g28 : act.tmps[28]?.getD undef = .pointer (some ⟨B, 2, none⟩) := hI.has 23 28 rfl (hall ⟨23, .data⟩ (by simp) rfl)
          clear hI hall hnot hcl
          refine .inl ⟨(wanted_of rfl rfl gg).trans rfl, ?_⟩
          clear gg
          unfold Oper.wp
          go_simp
          all_goals exact ⟨_, rfl, rfl, ⟨_, rfl⟩⟩
        · simp at hq; subst hq
          have gg : act.tmps[25]?.getD undef = .bool true := hI.has 20 25 rfl (hall ⟨20, .guard⟩ (by simp) rfl)
          have g1 : act.tmps[1]?.getD undef = .pointer (some ⟨B', 0, none⟩) := hI.kept 1 (by kernel_rfl)
          clear hI hall hnot hcl
          refine .inl ⟨(wanted_of rfl rfl gg).trans rfl, ?_⟩
          clear gg
          unfold Oper.wp
          go_simp
          all_goals exact ⟨_, rfl, rfl, ⟨_, rfl⟩⟩
        · simp at hq; subst hq
          have gg : act.tmps[25]?.getD undef = .bool true := hI.has 20 25 rfl (hall ⟨20, .guard⟩ (by simp) rfl)
          have g30 : act.tmps[30]?.getD undef = .pointer (some ⟨B', 0, none⟩) := hI.has 25 30 rfl (hall ⟨25, .data⟩ (by simp) rfl)
          clear hI hall hnot hcl
          refine .inl ⟨(wanted_of rfl rfl gg).trans rfl, ?_⟩
          clear gg
          unfold Oper.wp
          go_simp
          all_goals exact ⟨_, rfl, rfl, ⟨_, rfl⟩⟩
        · simp at hq; subst hq
          have gg : act.tmps[25]?.getD undef = .bool true := hI.has 20 25 rfl (hall ⟨20, .guard⟩ (by simp) rfl)
          have g31 : act.tmps[31]?.getD undef = .pointer (some ⟨B', 0, none⟩) := hI.has 26 31 rfl (hall ⟨26, .data⟩ (by simp) rfl)
          clear hI hall hnot hcl
          refine .inl ⟨(wanted_of rfl rfl gg).trans rfl, ?_⟩
          clear gg
          unfold Oper.wp
          go_simp
          all_goals exact ⟨_, rfl, rfl, ⟨_, rfl⟩⟩
        · simp at hq; subst hq
          have gg : act.tmps[25]?.getD undef = .bool true := hI.has 20 25 rfl (hall ⟨20, .guard⟩ (by simp) rfl)
          have g32 : act.tmps[32]?.getD undef = .pointer (some ⟨B', 2, none⟩) := hI.has 27 32 rfl (hall ⟨27, .data⟩ (by simp) rfl)
          clear hI hall hnot hcl
          refine .inl ⟨(wanted_of rfl rfl gg).trans rfl, ?_⟩
          clear gg
          unfold Oper.wp
          go_simp
          all_goals exact ⟨_, rfl, rfl, ⟨_, rfl⟩⟩
        · simp at hq; subst hq
          have gg : act.tmps[25]?.getD undef = .bool true := hI.has 20 25 rfl (hall ⟨20, .guard⟩ (by simp) rfl)
          have g29 : act.tmps[29]?.getD undef = .slice D d.length cd := hI.has 24 29 rfl (hall ⟨24, .data⟩ (by simp) rfl)
          have g33 : act.tmps[33]?.getD undef = .slice D' d'.length cd' := hI.has 28 33 rfl (hall ⟨28, .data⟩ (by simp) rfl)
          clear hI hall hnot hcl
          refine .inl ⟨(wanted_of rfl rfl gg).trans rfl, ?_⟩
          clear gg
          unfold Oper.wp
          go_simp
          refine (Q3 _).out.mono ?_
          rintro e w4 ⟨rfl, n4, rfl⟩
          exact ⟨_, rfl, rfl, hdd _ _⟩
        · simp at hq; subst hq
          have g25 : act.tmps[25]?.getD undef = .bool true := hI.has 20 25 rfl (hall ⟨20, .data⟩ (by simp) rfl)
          have g34 : act.tmps[34]?.getD undef = .bool z := hI.has 29 34 rfl (hall ⟨29, .data⟩ (by simp) rfl)
          clear hI hall hnot hcl
          refine .inl ⟨wanted_none rfl, ?_⟩
          unfold Oper.wp
          go_simp
          all_goals exact ⟨_, rfl, rfl, ⟨_, rfl⟩⟩
        · simp at hq; subst hq
          have g35 : act.tmps[35]?.getD undef = .bool z := hI.has 30 35 rfl (hall ⟨30, .data⟩ (by simp) rfl)
          clear hI hall hnot hcl
          refine .inl ⟨wanted_none rfl, ?_⟩
          unfold Oper.wp
          go_simp
          all_goals exact ⟨_, rfl, rfl, ⟨_, rfl⟩⟩
        · simp at hq
      case hend =>
        intro listed act w3 hI hall
        obtain ⟨nn, rfl⟩ := hI.cls
        have g4 : act.tmps[4]?.getD undef = .bool z := hI.has 31 4 rfl (hall 31 (by decide))
        have hd := hI.defers
        clear hI hall
        go_wp2
        refine bodyPost_ret (v := .bool z) (by simp [results, Try.results209, g4, go_sem]) (by first | rfl | exact hd) ⟨by rw [HE.out]; rfl, nn, rfl⟩
theorem s_SameProfile (A L D A' L' D' : Option Addr) (ca cl cd ca' cl' cd' : Nat) (a l d a' l' d' : List Nat) (w : World) (h : Pf w A L D a l d) (h' : Pf w A' L' D' a' l' d') (hn : Few a l d) (hw : WordsP a l d) (hw' : WordsP a' l' d') :
    Calls Try.prog 176 #[.agg #[.slice A a.length ca, .slice L l.length cl, .slice D d.length cd], .agg #[.slice A' a'.length ca', .slice L' l'.length cl', .slice D' d'.length cd']] w fun e w' => e = .returned (.bool (sameP a l d a' l' d')) ∧ Below w.heap.size w w' := by
  have HB : ∀ o1 o2, Hid (Below w.heap.size w ((w.alloc o1).alloc o2)) := fun _ _ => Lib.hid (((Below.refl _ _).alloc (Nat.le_refl _) _).alloc (by simp) _)
  have HP := Lib.hid h; clear h
  have HP' := Lib.hid h'; clear h'
  go_enter Try.func176, Try.ntmps176
  go_wp2_with fail
  refine (s_l02Same A L D A' L' D' ca cl cd ca' cl' cd' a l d a' l' d' w.heap.size (w.heap.size + 1) _ (HP.out.below (HB _ _).out) (HP'.out.below (HB _ _).out) ((blk3_new w _ _ _ _).alloc _) (blk3_at (w.alloc _) _ _ _ _ (by simp)) hn hw hw').mono ?_
  rintro e w1 ⟨n, rfl, rfl⟩
  go_wp2
  go_ret
  exact ⟨rfl, below_draws (HB _ _).out _⟩
end Go.Proofs.Ytiiiigldpbomkaa

/- Air: what is the same, and its speeds, densities and powers: both sides. No statement is proved here. -/
import Derived.Test.YtpmjikchlofebaaAir
import Derived.Test.YtpmjikchlofebaaInv3
namespace Go.Proofs.Ytpmjikchlofebaa
open Go Go.RowKit
def samN1 (x y : Nat) : Bool := decide (canon .f32 x = canon .f32 y)
def airS (d h s k d' h' s' k' : Nat) : Bool := samN1 d d' && (samN1 h h' && (samN1 s s' && samN1 k k'))
def spdQ (h s k z : Nat) : Nat := if amount z then onlyN (spdV h s k z) else 0
def spdO (d h s k z : Nat) : Bool := airV d h s k && (amount z && fin .f32 (spdV h s k z))
def spdR (d h s k z : Nat) : Nat := if airV d h s k && amount z then onlyN (spdV h s k z) else 0
def denO (d h s k z : Nat) : Bool := airV d h s k && (amount z && fin .f32 (denV d z))
def denR (d h s k z : Nat) : Nat := if airV d h s k && amount z then onlyN (denV d z) else 0
def powO (d s : Nat) : Bool := amount d && (amount s && fin .f32 (powV d s))
def powR (d s : Nat) : Nat := if amount d && amount s then onlyN (powV d s) else 0
set_option maxHeartbeats 8000000 in
theorem s_l04Speed (d h s k z B : Nat) (w : World) (hk : BlkL w B [.float .f32 d, .float .f32 h, .float .f32 s, .float .f32 k]) :
    Calls Try.prog 61 #[.pointer (some ⟨B, 0, none⟩), .float .f32 z] w fun e w' => ∃ r n, e = .returned (.float .f32 r) ∧ canon .f32 r = spdV h s k z ∧ w' = w.drewN n := by
  obtain ⟨k0, k1, k2, k3⟩ := hk.four
  clear hk
  go_enter Try.func61, Try.ntmps61
  go_wp2_with fail
  have hst : ∀ m, ∃ nn, { (w.drewN m) with drawn := (w.drewN m).drawn + 1 } = w.drewN nn := fun m => ⟨m + 1, rfl⟩
  have hdd : ∀ nn j, ∃ mm, (w.drewN nn).drewN j = w.drewN mm := fun nn j => ⟨nn + j, World.drewN_drewN ..⟩
  refine wp_region_inv3 (fun q0 v => match q0 with
    | 0 => v = .float .f32 z
    | 1 => v = .pointer (some ⟨B, 0, none⟩)
    | 2 => v = .pointer (some ⟨B, 0, none⟩)
    | 3 => v = .pointer (some ⟨B, 1, none⟩)
    | 4 => v = .float .f32 h
    | 5 => ∃ r, v = .float .f32 r ∧ canon .f32 r = fop .sub .f32 (canon .f32 z) (canon .f32 h)
    | 6 => v = .float .f32 z
    | 7 => v = .pointer (some ⟨B, 0, none⟩)
    | 8 => v = .pointer (some ⟨B, 0, none⟩)
    | 9 => v = .pointer (some ⟨B, 1, none⟩)
    | 10 => v = .float .f32 h
    | 11 => ∃ r, v = .float .f32 r ∧ canon .f32 r = fop .add .f32 (canon .f32 z) (canon .f32 h)
    | 12 => ∃ r, v = .float .f32 r ∧ canon .f32 r = fop .quo .f32 (fop .sub .f32 (canon .f32 z) (canon .f32 h)) (fop .add .f32 (canon .f32 z) (canon .f32 h))
    | 13 => ∃ r, v = .float .f32 r ∧ canon .f32 r = fop .quo .f32 (fop .sub .f32 (canon .f32 z) (canon .f32 h)) (fop .add .f32 (canon .f32 z) (canon .f32 h))
    | _ => False) (fun _ ww => ∃ nn, ww = w.drewN nn) (by kernel_rfl) (by kernel_rfl) ⟨1, rfl⟩ ?hop ?hend
  case hop =>
    intro q o hq listed act w3 hI hnot hcl hall
    obtain ⟨nn, rfl⟩ := hI.cls
    rcases q with _ | _ | _ | _ | _ | _ | _ | _ | _ | _ | _ | _ | _ | _ | q
    · simp at hq; subst hq
      have g1 : act.tmps[1]?.getD undef = .float .f32 z := hI.kept 1 (by kernel_rfl)
      clear hI hall hnot hcl
      refine .inl ⟨wanted_none rfl, ?_⟩
      unfold Oper.wp
      go_simp
      all_goals exact ⟨_, rfl, rfl, ⟨_, rfl⟩⟩
    · simp at hq; subst hq
      have g0 : act.tmps[0]?.getD undef = .pointer (some ⟨B, 0, none⟩) := hI.kept 0 (by kernel_rfl)
      clear hI hall hnot hcl
      refine .inl ⟨wanted_none rfl, ?_⟩
      unfold Oper.wp
      go_simp
      all_goals exact ⟨_, rfl, rfl, ⟨_, rfl⟩⟩
    · simp at hq; subst hq
      have g7 : act.tmps[7]?.getD undef = .pointer (some ⟨B, 0, none⟩) := hI.has 1 7 rfl (hall ⟨1, .data⟩ (by simp) rfl)
      clear hI hall hnot hcl
      refine .inl ⟨wanted_none rfl, ?_⟩
      unfold Oper.wp
      go_simp
      all_goals exact ⟨_, rfl, rfl, ⟨_, rfl⟩⟩
    · simp at hq; subst hq
      have g8 : act.tmps[8]?.getD undef = .pointer (some ⟨B, 0, none⟩) := hI.has 2 8 rfl (hall ⟨2, .data⟩ (by simp) rfl)
      clear hI hall hnot hcl
      refine .inl ⟨wanted_none rfl, ?_⟩
      unfold Oper.wp
      go_simp
      all_goals exact ⟨_, rfl, rfl, ⟨_, rfl⟩⟩
    · simp at hq; subst hq
      have g9 : act.tmps[9]?.getD undef = .pointer (some ⟨B, 1, none⟩) := hI.has 3 9 rfl (hall ⟨3, .data⟩ (by simp) rfl)
      clear hI hall hnot hcl
      refine .inl ⟨wanted_none rfl, ?_⟩
      unfold Oper.wp
      go_simp
      all_goals exact ⟨_, rfl, rfl, ⟨_, rfl⟩⟩
    · simp at hq; subst hq
      have g6 : act.tmps[6]?.getD undef = .float .f32 z := hI.has 0 6 rfl (hall ⟨0, .data⟩ (by simp) rfl)
      have g10 : act.tmps[10]?.getD undef = .float .f32 h := hI.has 4 10 rfl (hall ⟨4, .data⟩ (by simp) rfl)
      clear hI hall hnot hcl
      refine .inl ⟨wanted_none rfl, ?_⟩
      unfold Oper.wp
      go_simp
      exact ⟨_, rfl, ⟨_, rfl, canonF rfl rfl⟩, by first | exact ⟨_, rfl⟩ | exact hdd _ _⟩
    · simp at hq; subst hq
      have g1 : act.tmps[1]?.getD undef = .float .f32 z := hI.kept 1 (by kernel_rfl)
      clear hI hall hnot hcl
      refine .inl ⟨wanted_none rfl, ?_⟩
      unfold Oper.wp
      go_simp
      all_goals exact ⟨_, rfl, rfl, ⟨_, rfl⟩⟩
    · simp at hq; subst hq
      have g0 : act.tmps[0]?.getD undef = .pointer (some ⟨B, 0, none⟩) := hI.kept 0 (by kernel_rfl)
      clear hI hall hnot hcl
      refine .inl ⟨wanted_none rfl, ?_⟩
      unfold Oper.wp
      go_simp
      all_goals exact ⟨_, rfl, rfl, ⟨_, rfl⟩⟩
    · simp at hq; subst hq
      have g13 : act.tmps[13]?.getD undef = .pointer (some ⟨B, 0, none⟩) := hI.has 7 13 rfl (hall ⟨7, .data⟩ (by simp) rfl)
      clear hI hall hnot hcl
      refine .inl ⟨wanted_none rfl, ?_⟩
      unfold Oper.wp
      go_simp
      all_goals exact ⟨_, rfl, rfl, ⟨_, rfl⟩⟩
    · simp at hq; subst hq
      have g14 : act.tmps[14]?.getD undef = .pointer (some ⟨B, 0, none⟩) := hI.has 8 14 rfl (hall ⟨8, .data⟩ (by simp) rfl)
      clear hI hall hnot hcl
      refine .inl ⟨wanted_none rfl, ?_⟩
      unfold Oper.wp
      go_simp
      all_goals exact ⟨_, rfl, rfl, ⟨_, rfl⟩⟩
    · simp at hq; subst hq
      have g15 : act.tmps[15]?.getD undef = .pointer (some ⟨B, 1, none⟩) := hI.has 9 15 rfl (hall ⟨9, .data⟩ (by simp) rfl)
      clear hI hall hnot hcl
      refine .inl ⟨wanted_none rfl, ?_⟩
      unfold Oper.wp
      go_simp
      all_goals exact ⟨_, rfl, rfl, ⟨_, rfl⟩⟩
    · simp at hq; subst hq
      have g12 : act.tmps[12]?.getD undef = .float .f32 z := hI.has 6 12 rfl (hall ⟨6, .data⟩ (by simp) rfl)
      have g16 : act.tmps[16]?.getD undef = .float .f32 h := hI.has 10 16 rfl (hall ⟨10, .data⟩ (by simp) rfl)
      clear hI hall hnot hcl
      refine .inl ⟨wanted_none rfl, ?_⟩
      unfold Oper.wp
      go_simp
      exact ⟨_, rfl, ⟨_, rfl, canonF rfl rfl⟩, by first | exact ⟨_, rfl⟩ | exact hdd _ _⟩
    · simp at hq; subst hq
      obtain ⟨r5, g11, h5a⟩ := hI.has 5 11 rfl (hall ⟨5, .data⟩ (by simp) rfl)
      obtain ⟨r11, g17, h11a⟩ := hI.has 11 17 rfl (hall ⟨11, .data⟩ (by simp) rfl)
      clear hI hall hnot hcl
      refine .inl ⟨wanted_none rfl, ?_⟩
      unfold Oper.wp
      go_simp
      exact ⟨_, rfl, ⟨_, rfl, canonF h5a h11a⟩, by first | exact ⟨_, rfl⟩ | exact hdd _ _⟩
    · simp at hq; subst hq
      obtain ⟨r12, g18, h12a⟩ := hI.has 12 18 rfl (hall ⟨12, .data⟩ (by simp) rfl)
      clear hI hall hnot hcl
      refine .inl ⟨wanted_none rfl, ?_⟩
      unfold Oper.wp
      go_simp
      exact ⟨_, rfl, ⟨_, rfl, h12a⟩, ⟨_, rfl⟩⟩
    · simp at hq
  case hend =>
    intro listed act w3 hI hall
    obtain ⟨nn, rfl⟩ := hI.cls
    obtain ⟨r5, G5, h5⟩ := hI.has 13 5 rfl (hall 13 (by decide))
    have G0 : act.tmps[0]?.getD undef = .pointer (some ⟨B, 0, none⟩) := hI.kept 0 (by kernel_rfl)
    have hsz : act.tmps.size = 31 := hI.size.trans (by kernel_rfl)
    have hd0 := hI.defers
    clear hI hall
    go_wp2_with fail
    refine wp_region_inv3 (fun q0 v => match q0 with
      | 0 => v = .pointer (some ⟨B, 0, none⟩)
      | 1 => v = .pointer (some ⟨B, 0, none⟩)
      | 2 => v = .pointer (some ⟨B, 2, none⟩)
      | 3 => v = .float .f32 s
      | 4 => v = .pointer (some ⟨B, 0, none⟩)
      | 5 => v = .pointer (some ⟨B, 0, none⟩)
      | 6 => v = .pointer (some ⟨B, 3, none⟩)
      | 7 => v = .float .f32 k
      | 8 => ∃ r, v = .float .f32 r ∧ canon .f32 r = fop .quo .f32 (fop .sub .f32 (canon .f32 z) (canon .f32 h)) (fop .add .f32 (canon .f32 z) (canon .f32 h))
      | 9 => ∃ r, v = .float .f32 r ∧ canon .f32 r = fop .mul .f32 (canon .f32 k) (fop .quo .f32 (fop .sub .f32 (canon .f32 z) (canon .f32 h)) (fop .add .f32 (canon .f32 z) (canon .f32 h)))
      | 10 => ∃ r, v = .float .f32 r ∧ canon .f32 r = fop .add .f32 (canon .f32 1065353216) (fop .mul .f32 (canon .f32 k) (fop .quo .f32 (fop .sub .f32 (canon .f32 z) (canon .f32 h)) (fop .add .f32 (canon .f32 z) (canon .f32 h))))
      | 11 => ∃ r, v = .float .f32 r ∧ canon .f32 r = fop .mul .f32 (canon .f32 s) (fop .add .f32 (canon .f32 1065353216) (fop .mul .f32 (canon .f32 k) (fop .quo .f32 (fop .sub .f32 (canon .f32 z) (canon .f32 h)) (fop .add .f32 (canon .f32 z) (canon .f32 h)))))
      | 12 => ∃ r, v = .float .f32 r ∧ canon .f32 r = fop .mul .f32 (canon .f32 s) (fop .add .f32 (canon .f32 1065353216) (fop .mul .f32 (canon .f32 k) (fop .quo .f32 (fop .sub .f32 (canon .f32 z) (canon .f32 h)) (fop .add .f32 (canon .f32 z) (canon .f32 h)))))
      | _ => False) (fun _ ww => ∃ nn, ww = w.drewN nn) (by kernel_rfl) (by rw [hsz]; kernel_rfl) (hst _) ?hop ?hend
    case hop =>
      intro q o hq listed act w3 hI hnot hcl hall
      obtain ⟨nn, rfl⟩ := hI.cls
      rcases q with _ | _ | _ | _ | _ | _ | _ | _ | _ | _ | _ | _ | _ | q
      · simp at hq; subst hq
        have g0 : act.tmps[0]?.getD undef = .pointer (some ⟨B, 0, none⟩) := (hI.kept 0 (by kernel_rfl)).trans (by rw [Array.getD_eq_getD_getElem?]; exact G0)
        clear hI hall hnot hcl
        refine .inl ⟨wanted_none rfl, ?_⟩
        unfold Oper.wp
        go_simp
        all_goals exact ⟨_, rfl, rfl, ⟨_, rfl⟩⟩
      · simp at hq; subst hq
        have g19 : act.tmps[19]?.getD undef = .pointer (some ⟨B, 0, none⟩) := hI.has 0 19 rfl (hall ⟨0, .data⟩ (by simp) rfl)
        clear hI hall hnot hcl
        refine .inl ⟨wanted_none rfl, ?_⟩
        unfold Oper.wp
        go_simp
        all_goals exact ⟨_, rfl, rfl, ⟨_, rfl⟩⟩
      · simp at hq; subst hq
        have g20 : act.tmps[20]?.getD undef = .pointer (some ⟨B, 0, none⟩) := hI.has 1 20 rfl (hall ⟨1, .data⟩ (by simp) rfl)
        clear hI hall hnot hcl
        refine .inl ⟨wanted_none rfl, ?_⟩
        unfold Oper.wp
        go_simp
        all_goals exact ⟨_, rfl, rfl, ⟨_, rfl⟩⟩
      · simp at hq; subst hq
        have g21 : act.tmps[21]?.getD undef = .pointer (some ⟨B, 2, none⟩) := hI.has 2 21 rfl (hall ⟨2, .data⟩ (by simp) rfl)
        clear hI hall hnot hcl
        refine .inl ⟨wanted_none rfl, ?_⟩
        unfold Oper.wp
        go_simp
        all_goals exact ⟨_, rfl, rfl, ⟨_, rfl⟩⟩
      · simp at hq; subst hq
        have g0 : act.tmps[0]?.getD undef = .pointer (some ⟨B, 0, none⟩) := (hI.kept 0 (by kernel_rfl)).trans (by rw [Array.getD_eq_getD_getElem?]; exact G0)
        clear hI hall hnot hcl
        refine .inl ⟨wanted_none rfl, ?_⟩
        unfold Oper.wp
        go_simp
        all_goals exact ⟨_, rfl, rfl, ⟨_, rfl⟩⟩
      · simp at hq; subst hq
        have g23 : act.tmps[23]?.getD undef = .pointer (some ⟨B, 0, none⟩) := hI.has 4 23 rfl (hall ⟨4, .data⟩ (by simp) rfl)
        clear hI hall hnot hcl
        refine .inl ⟨wanted_none rfl, ?_⟩
        unfold Oper.wp
        go_simp
        all_goals exact ⟨_, rfl, rfl, ⟨_, rfl⟩⟩
      · simp at hq; subst hq
        have g24 : act.tmps[24]?.getD undef = .pointer (some ⟨B, 0, none⟩) := hI.has 5 24 rfl (hall ⟨5, .data⟩ (by simp) rfl)
        clear hI hall hnot hcl
        refine .inl ⟨wanted_none rfl, ?_⟩
        unfold Oper.wp
        go_simp
        all_goals exact ⟨_, rfl, rfl, ⟨_, rfl⟩⟩
      · simp at hq; subst hq
        have g25 : act.tmps[25]?.getD undef = .pointer (some ⟨B, 3, none⟩) := hI.has 6 25 rfl (hall ⟨6, .data⟩ (by simp) rfl)
        clear hI hall hnot hcl
        refine .inl ⟨wanted_none rfl, ?_⟩
        unfold Oper.wp
        go_simp
        all_goals exact ⟨_, rfl, rfl, ⟨_, rfl⟩⟩
      · simp at hq; subst hq
        have g5 : act.tmps[5]?.getD undef = .float .f32 r5 := (hI.kept 5 (by kernel_rfl)).trans (by rw [Array.getD_eq_getD_getElem?]; exact G5)
        clear hI hall hnot hcl
        refine .inl ⟨wanted_none rfl, ?_⟩
        unfold Oper.wp
        go_simp
        exact ⟨_, rfl, ⟨_, rfl, h5⟩, ⟨_, rfl⟩⟩
      · simp at hq; subst hq
        have g26 : act.tmps[26]?.getD undef = .float .f32 k := hI.has 7 26 rfl (hall ⟨7, .data⟩ (by simp) rfl)
        obtain ⟨r8, g27, h8a⟩ := hI.has 8 27 rfl (hall ⟨8, .data⟩ (by simp) rfl)
        clear hI hall hnot hcl
        refine .inl ⟨wanted_none rfl, ?_⟩
        unfold Oper.wp
        go_simp
        exact ⟨_, rfl, ⟨_, rfl, canonF rfl h8a⟩, by first | exact ⟨_, rfl⟩ | exact hdd _ _⟩
      · simp at hq; subst hq
        obtain ⟨r9, g28, h9a⟩ := hI.has 9 28 rfl (hall ⟨9, .data⟩ (by simp) rfl)
        clear hI hall hnot hcl
        refine .inl ⟨wanted_none rfl, ?_⟩
        unfold Oper.wp
        go_simp
        exact ⟨_, rfl, ⟨_, rfl, canonF rfl h9a⟩, by first | exact ⟨_, rfl⟩ | exact hdd _ _⟩
      · simp at hq; subst hq
        have g22 : act.tmps[22]?.getD undef = .float .f32 s := hI.has 3 22 rfl (hall ⟨3, .data⟩ (by simp) rfl)
        obtain ⟨r10, g29, h10a⟩ := hI.has 10 29 rfl (hall ⟨10, .data⟩ (by simp) rfl)
        clear hI hall hnot hcl
        refine .inl ⟨wanted_none rfl, ?_⟩
        unfold Oper.wp
        go_simp
        exact ⟨_, rfl, ⟨_, rfl, canonF rfl h10a⟩, by first | exact ⟨_, rfl⟩ | exact hdd _ _⟩
      · simp at hq; subst hq
        obtain ⟨r11, g30, h11a⟩ := hI.has 11 30 rfl (hall ⟨11, .data⟩ (by simp) rfl)
        clear hI hall hnot hcl
        refine .inl ⟨wanted_none rfl, ?_⟩
        unfold Oper.wp
        go_simp
        exact ⟨_, rfl, ⟨_, rfl, h11a⟩, ⟨_, rfl⟩⟩
      · simp at hq
    case hend =>
      intro listed act w3 hI hall
      obtain ⟨nn, rfl⟩ := hI.cls
      obtain ⟨rq, g4, hrq⟩ := hI.has 12 4 rfl (hall 12 (by decide))
      have hd := hI.defers.trans hd0
      clear hI hall
      go_wp2
      refine bodyPost_ret (v := .float .f32 rq) (by simp [results, Try.results61, g4, go_sem]) (by first | rfl | exact hd) ⟨rq, nn, rfl, hrq, rfl⟩
theorem s_l04Power (d s : Nat) (w : World) :
    Calls Try.prog 60 #[.float .f32 d, .float .f32 s] w fun e w' => ∃ r n, e = .returned (.float .f32 r) ∧ canon .f32 r = powV d s ∧ w' = w.drewN n := by
  go_enter Try.func60, Try.ntmps60
  go_wp2
  go_ret
  exact ⟨_, _, rfl, by unfold powV; exact canonF (canonF (canonF (canonF rfl rfl) rfl) rfl) rfl, rfl⟩
theorem i_AirPower (d s : Nat) (w : World) :
    Calls Try.prog 125 #[.float .f32 d, .float .f32 s] w fun e w' => ∃ r n, e = .returned (.tuple #[.float .f32 r, .bool (powO d s)]) ∧ canon .f32 r = powR d s ∧ w' = w.drewN n := by
  go_enter Try.func125, Try.ntmps125
  go_wp2_with fail
  refine (i_notAmount _ _).mono ?_
  rintro e w' ⟨n1, rfl, rfl⟩
  cases p1 : amount d
  · go_wp2
    go_ret2
    exact ⟨_, _, by unfold powO; rw [p1]; rfl, by unfold powR; rw [p1]; exact canon_zero, by first | rfl | (simp only [World.drewN_drewN]; rfl)⟩
  · have P1 := Lib.hid p1; clear p1
    go_wp2_with fail
    refine (i_notAmount _ _).mono ?_
    rintro e w' ⟨n2, rfl, rfl⟩
    cases p2 : amount s
    · go_wp2
      go_ret2
      exact ⟨_, _, by unfold powO; rw [P1.out, p2]; rfl, by unfold powR; rw [P1.out, p2]; exact canon_zero, by first | rfl | (simp only [World.drewN_drewN]; rfl)⟩
    · have P2 := Lib.hid p2; clear p2
      go_wp2_with fail
      refine (i_onlyFiniteC _ (powV d s) _ (by unfold powV; exact canonF (canonF (canonF (canonF rfl rfl) rfl) rfl) rfl)).mono ?_
      rintro e w' ⟨r', n4, rfl, hr', rfl⟩
      have HR := Lib.hid hr'; clear hr'
      go_wp2
      go_ret2
      exact ⟨_, _, by unfold powO; rw [P1.out, P2.out]; rfl, by rw [HR.out]; unfold powR; rw [P1.out, P2.out]; rfl, by first | rfl | (simp only [World.drewN_drewN]; rfl)⟩
end Go.Proofs.Ytpmjikchlofebaa

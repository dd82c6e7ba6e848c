/- The same farms: both sides. No statement is proved here. -/
import Derived.Test.YtiiiigldpbomkaaFrmV
import Derived.Test.YtiiiigldpbomkaaSameR
import Derived.Test.YtiiiigldpbomkaaGd
import Derived.Test.YtiiiigldpbomkaaStC
namespace Go.Proofs.Ytiiiigldpbomkaa
open Go Go.RowKit
def frmE (fx fy : List Nat) (fr fd fs : Nat) (fx' fy' : List Nat) (fr' fd' fs' : Nat) : Bool := samL1 fx fx' && (samL1 fy fy' && (samN1 fr fr' && (samN1 fd fd' && samN1 fs fs')))
set_option maxHeartbeats 8000000 in
set_option maxRecDepth 100000 in
theorem s_l06Same (X Y : Option Addr) (cx cy : Nat) (fx fy : List Nat) (fr fd fs : Nat) (X' Y' : Option Addr) (cx' cy' : Nat) (fx' fy' : List Nat) (fr' fd' fs' : Nat) (B B' : Nat) (w : World) (h : Rs w X Y fx fy) (h' : Rs w X' Y' fx' fy') (hn : FewS fx fy) (hn' : FewS fx' fy') (hw : (∀ x ∈ fx, x < words .f32) ∧ ∀ x ∈ fy, x < words .f32) (hw' : (∀ x ∈ fx', x < words .f32) ∧ ∀ x ∈ fy', x < words .f32) (hv : fr < words .f32 ∧ fd < words .f32 ∧ fs < words .f32) (hv' : fr' < words .f32 ∧ fd' < words .f32 ∧ fs' < words .f32) (hk : BlkL w B [.slice X fx.length cx, .slice Y fy.length cy, .float .f32 fr, .float .f32 fd, .float .f32 fs]) (hk' : BlkL w B' [.slice X' fx'.length cx', .slice Y' fy'.length cy', .float .f32 fr', .float .f32 fd', .float .f32 fs']) :
    Calls Try.prog 139 #[.pointer (some ⟨B, 0, none⟩), .pointer (some ⟨B', 0, none⟩)] w fun e w' => e = .returned (.bool (frmE fx fy fr fd fs fx' fy' fr' fd' fs')) ∧ ∃ n, w' = w.drewN n := by
  unfold FewS at hn hn'
  obtain ⟨v0, v1, v2⟩ := hv
  obtain ⟨z0, z1, z2⟩ := hv'
  have HP := Lib.hid h; have HP' := Lib.hid h'
  have HW := Lib.hid hw; have HW' := Lib.hid hw'
  obtain ⟨k0, k1, k2, k3, k4⟩ := hk.five
  obtain ⟨l0, l1, l2, l3, l4⟩ := hk'.five
  have A0 : ∀ m, Hid (Calls Try.prog 179 #[.slice X fx.length cx, .slice X' fx'.length cx'] (w.drewN m) fun e w' => e = .returned (.bool (samL1 fx fx')) ∧ ∃ n, w' = (w.drewN m).drewN n) := fun m => Lib.hid (s_l01SameAllR X X' cx cx' fx fx' _ (HP.out.1.draws m) (HP'.out.1.draws m) (by omega) (by omega) HW.out.1 HW'.out.1)
  have A1 : ∀ m, Hid (Calls Try.prog 179 #[.slice Y fy.length cy, .slice Y' fy'.length cy'] (w.drewN m) fun e w' => e = .returned (.bool (samL1 fy fy')) ∧ ∃ n, w' = (w.drewN m).drewN n) := fun m => Lib.hid (s_l01SameAllR Y Y' cy cy' fy fy' _ (HP.out.2.draws m) (HP'.out.2.draws m) (by omega) (by omega) HW.out.2 HW'.out.2)
  have Q0 : ∀ W, Hid (Calls Try.prog 177 #[.float .f32 fr, .float .f32 fr'] W fun e w' => e = .returned (.bool (samN1 fr fr')) ∧ w' = W) := fun W => Lib.hid (s_l01Same _ _ _ (canon_lt v0) (canon_lt z0))
  have Q1 : ∀ W, Hid (Calls Try.prog 177 #[.float .f32 fd, .float .f32 fd'] W fun e w' => e = .returned (.bool (samN1 fd fd')) ∧ w' = W) := fun W => Lib.hid (s_l01Same _ _ _ (canon_lt v1) (canon_lt z1))
  have Q2 : ∀ W, Hid (Calls Try.prog 177 #[.float .f32 fs, .float .f32 fs'] W fun e w' => e = .returned (.bool (samN1 fs fs')) ∧ w' = W) := fun W => Lib.hid (s_l01Same _ _ _ (canon_lt v2) (canon_lt z2))
  clear h h' hw hw' v0 v1 v2 z0 z1 z2 hk hk' hn hn' HP HP' HW HW'
  have HE : Hid (frmE fx fy fr fd fs fx' fy' fr' fd' fs' = (samL1 fx fx' && (samL1 fy fy' && (samN1 fr fr' && (samN1 fd fd' && samN1 fs fs'))))) := rfl
  generalize samL1 fx fx' = u0 at A0 HE
  generalize samL1 fy fy' = u1 at A1 HE
  generalize samN1 fr fr' = t0 at Q0 HE
  generalize samN1 fd fd' = t1 at Q1 HE
  generalize samN1 fs fs' = t2 at Q2 HE
  have hdd : ∀ nn j, ∃ mm, (w.drewN nn).drewN j = w.drewN mm := fun nn j => ⟨nn + j, World.drewN_drewN ..⟩
  go_enter Try.func139, Try.ntmps139
  go_wp2_with fail
  refine wp_region_inv3 (fun iq v => match iq with
    | 0 => v = .pointer (some ⟨B, 0, none⟩)
    | 1 => v = .pointer (some ⟨B, 0, none⟩)
    | 2 => v = .pointer (some ⟨B, 0, none⟩)
    | 3 => v = .slice X fx.length cx
    | 4 => v = .pointer (some ⟨B', 0, none⟩)
    | 5 => v = .pointer (some ⟨B', 0, none⟩)
    | 6 => v = .pointer (some ⟨B', 0, none⟩)
    | 7 => v = .slice X' fx'.length cx'
    | 8 => v = .bool u0
    | 9 => v = .bool u0
    | 10 => Gd u0 true (v = .pointer (some ⟨B, 0, none⟩)) v
    | 11 => Gd u0 true (v = .pointer (some ⟨B, 0, none⟩)) v
    | 12 => Gd u0 true (v = .pointer (some ⟨B, 1, none⟩)) v
    | 13 => Gd u0 true (v = .slice Y fy.length cy) v
    | 14 => Gd u0 true (v = .pointer (some ⟨B', 0, none⟩)) v
    | 15 => Gd u0 true (v = .pointer (some ⟨B', 0, none⟩)) v
    | 16 => Gd u0 true (v = .pointer (some ⟨B', 1, none⟩)) v
    | 17 => Gd u0 true (v = .slice Y' fy'.length cy') v
    | 18 => Gd u0 true (v = .bool u1) v
    | 19 => v = .bool (u0 && u1)
    | 20 => v = .bool (u0 && u1)
    | 21 => Gd ((u0 && u1)) true (v = .pointer (some ⟨B, 0, none⟩)) v
    | 22 => Gd ((u0 && u1)) true (v = .pointer (some ⟨B, 0, none⟩)) v
    | 23 => Gd ((u0 && u1)) true (v = .pointer (some ⟨B, 2, none⟩)) v
    | 24 => Gd ((u0 && u1)) true (v = .float .f32 fr) v
    | 25 => Gd ((u0 && u1)) true (v = .pointer (some ⟨B', 0, none⟩)) v
    | 26 => Gd ((u0 && u1)) true (v = .pointer (some ⟨B', 0, none⟩)) v
    | 27 => Gd ((u0 && u1)) true (v = .pointer (some ⟨B', 2, none⟩)) v
    | 28 => Gd ((u0 && u1)) true (v = .float .f32 fr') v
    | 29 => Gd ((u0 && u1)) true (v = .bool t0) v
    | 30 => v = .bool ((u0 && u1) && t0)
    | 31 => v = .bool ((u0 && u1) && t0)
    | 32 => Gd (((u0 && u1) && t0)) true (v = .pointer (some ⟨B, 0, none⟩)) v
    | 33 => Gd (((u0 && u1) && t0)) true (v = .pointer (some ⟨B, 0, none⟩)) v
    | 34 => Gd (((u0 && u1) && t0)) true (v = .pointer (some ⟨B, 3, none⟩)) v
    | 35 => Gd (((u0 && u1) && t0)) true (v = .float .f32 fd) v
    | 36 => Gd (((u0 && u1) && t0)) true (v = .pointer (some ⟨B', 0, none⟩)) v
    | 37 => Gd (((u0 && u1) && t0)) true (v = .pointer (some ⟨B', 0, none⟩)) v
    | 38 => Gd (((u0 && u1) && t0)) true (v = .pointer (some ⟨B', 3, none⟩)) v
    | 39 => Gd (((u0 && u1) && t0)) true (v = .float .f32 fd') v
    | 40 => Gd (((u0 && u1) && t0)) true (v = .bool t1) v
    | 41 => v = .bool (((u0 && u1) && t0) && t1)
    | 42 => v = .bool (((u0 && u1) && t0) && t1)
    | 43 => Gd ((((u0 && u1) && t0) && t1)) true (v = .pointer (some ⟨B, 0, none⟩)) v
    | 44 => Gd ((((u0 && u1) && t0) && t1)) true (v = .pointer (some ⟨B, 0, none⟩)) v
    | 45 => Gd ((((u0 && u1) && t0) && t1)) true (v = .pointer (some ⟨B, 4, none⟩)) v
    | 46 => Gd ((((u0 && u1) && t0) && t1)) true (v = .float .f32 fs) v
    | 47 => Gd ((((u0 && u1) && t0) && t1)) true (v = .pointer (some ⟨B', 0, none⟩)) v
    | 48 => Gd ((((u0 && u1) && t0) && t1)) true (v = .pointer (some ⟨B', 0, none⟩)) v
    | 49 => Gd ((((u0 && u1) && t0) && t1)) true (v = .pointer (some ⟨B', 4, none⟩)) v
    | 50 => Gd ((((u0 && u1) && t0) && t1)) true (v = .float .f32 fs') v
    | 51 => Gd ((((u0 && u1) && t0) && t1)) true (v = .bool t2) v
    | 52 => v = .bool ((((u0 && u1) && t0) && t1) && t2)
    | 53 => v = .bool ((((u0 && u1) && t0) && t1) && t2)
    | _ => False) (fun _ ww => ∃ nn, ww = w.drewN nn) (by kernel_rfl) (by kernel_rfl) ⟨1, rfl⟩ ?hop ?hend
  case hop =>
    intro q o hq listed act w3 hI hnot hcl hall
    obtain ⟨nn, rfl⟩ := hI.cls
    rcases q with _ | _ | _ | _ | _ | _ | _ | _ | _ | _ | _ | _ | _ | _ | _ | _ | _ | _ | _ | _ | _ | _ | _ | _ | _ | _ | _ | _ | _ | _ | _ | _ | _ | _ | _ | _ | _ | _ | _ | _ | _ | _ | _ | _ | _ | _ | _ | _ | _ | _ | _ | _ | _ | _ | q
    · simp at hq; subst hq
      have g0 : act.tmps[0]?.getD undef = .pointer (some ⟨B, 0, none⟩) := hI.kept 0 (by kernel_rfl)
      clear hI hall hnot hcl
      refine .inl ⟨wanted_none rfl, ?_⟩
      unfold Oper.wp
      go_simp
      all_goals exact ⟨_, rfl, rfl, ⟨_, rfl⟩⟩
    · simp at hq; subst hq
      have g5 : act.tmps[5]?.getD undef = .pointer (some ⟨B, 0, none⟩) := hI.has 0 5 rfl (hall ⟨0, .data⟩ (by simp) rfl)
      clear hI hall hnot hcl
      refine .inl ⟨wanted_none rfl, ?_⟩
      unfold Oper.wp
      go_simp
      all_goals exact ⟨_, rfl, rfl, ⟨_, rfl⟩⟩
    · simp at hq; subst hq
      have g6 : act.tmps[6]?.getD undef = .pointer (some ⟨B, 0, none⟩) := hI.has 1 6 rfl (hall ⟨1, .data⟩ (by simp) rfl)
      clear hI hall hnot hcl
      refine .inl ⟨wanted_none rfl, ?_⟩
      unfold Oper.wp
      go_simp
      all_goals exact ⟨_, rfl, rfl, ⟨_, rfl⟩⟩
    · simp at hq; subst hq
      have g7 : act.tmps[7]?.getD undef = .pointer (some ⟨B, 0, none⟩) := hI.has 2 7 rfl (hall ⟨2, .data⟩ (by simp) rfl)
      clear hI hall hnot hcl
      refine .inl ⟨wanted_none rfl, ?_⟩
      unfold Oper.wp
      go_simp
      all_goals exact ⟨_, rfl, rfl, ⟨_, rfl⟩⟩
    · simp at hq; subst hq
      have g1 : act.tmps[1]?.getD undef = .pointer (some ⟨B', 0, none⟩) := hI.kept 1 (by kernel_rfl)
      clear hI hall hnot hcl
      refine .inl ⟨wanted_none rfl, ?_⟩
      unfold Oper.wp
      go_simp
      all_goals exact ⟨_, rfl, rfl, ⟨_, rfl⟩⟩
    · simp at hq; subst hq
      have g9 : act.tmps[9]?.getD undef = .pointer (some ⟨B', 0, none⟩) := hI.has 4 9 rfl (hall ⟨4, .data⟩ (by simp) rfl)
      clear hI hall hnot hcl
      refine .inl ⟨wanted_none rfl, ?_⟩
      unfold Oper.wp
      go_simp
      all_goals exact ⟨_, rfl, rfl, ⟨_, rfl⟩⟩
    · simp at hq; subst hq
      have g10 : act.tmps[10]?.getD undef = .pointer (some ⟨B', 0, none⟩) := hI.has 5 10 rfl (hall ⟨5, .data⟩ (by simp) rfl)
      clear hI hall hnot hcl
      refine .inl ⟨wanted_none rfl, ?_⟩
      unfold Oper.wp
      go_simp
      all_goals exact ⟨_, rfl, rfl, ⟨_, rfl⟩⟩
    · simp at hq; subst hq
      have g11 : act.tmps[11]?.getD undef = .pointer (some ⟨B', 0, none⟩) := hI.has 6 11 rfl (hall ⟨6, .data⟩ (by simp) rfl)
      clear hI hall hnot hcl
      refine .inl ⟨wanted_none rfl, ?_⟩
      unfold Oper.wp
      go_simp
      all_goals exact ⟨_, rfl, rfl, ⟨_, rfl⟩⟩
    · simp at hq; subst hq
      have g8 : act.tmps[8]?.getD undef = .slice X fx.length cx := hI.has 3 8 rfl (hall ⟨3, .data⟩ (by simp) rfl)
      have g12 : act.tmps[12]?.getD undef = .slice X' fx'.length cx' := hI.has 7 12 rfl (hall ⟨7, .data⟩ (by simp) rfl)
      clear hI hall hnot hcl
      refine .inl ⟨wanted_none rfl, ?_⟩
      unfold Oper.wp
      go_simp
      refine (A0 _).out.mono ?_
      rintro e w4 ⟨rfl, n4, rfl⟩
      exact ⟨_, rfl, rfl, hdd _ _⟩
    · simp at hq; subst hq
      have g13 : act.tmps[13]?.getD undef = .bool u0 := hI.has 8 13 rfl (hall ⟨8, .data⟩ (by simp) rfl)
      clear hI hall hnot hcl
      refine .inl ⟨wanted_none rfl, ?_⟩
      unfold Oper.wp
      go_simp
      all_goals exact ⟨_, rfl, rfl, ⟨_, rfl⟩⟩
    · simp at hq; subst hq
      have gg : act.tmps[14]?.getD undef = .bool u0 := hI.has 9 14 rfl (hall ⟨9, .guard⟩ (by simp) rfl)
      rcases Bool.eq_false_or_eq_true u0 with hc | hc
      case inr =>
        exact .inr ⟨(wanted_of rfl rfl (gg.trans (by rw [hc]))).trans rfl, Gd.no hc, ⟨_, rfl⟩⟩
      have g0 : act.tmps[0]?.getD undef = .pointer (some ⟨B, 0, none⟩) := hI.kept 0 (by kernel_rfl)
      clear hI hall hnot hcl
      refine .inl ⟨(wanted_of rfl rfl (gg.trans (by rw [hc]))).trans rfl, ?_⟩
      clear gg
      unfold Oper.wp
      go_simp
      all_goals exact ⟨_, rfl, Gd.yes (by first | rfl | exact hc) rfl, ⟨_, rfl⟩⟩
    · simp at hq; subst hq
      have gg : act.tmps[14]?.getD undef = .bool u0 := hI.has 9 14 rfl (hall ⟨9, .guard⟩ (by simp) rfl)
      rcases Bool.eq_false_or_eq_true u0 with hc | hc
      case inr =>
        exact .inr ⟨(wanted_of rfl rfl (gg.trans (by rw [hc]))).trans rfl, Gd.no hc, ⟨_, rfl⟩⟩
      have g15 : act.tmps[15]?.getD undef = .pointer (some ⟨B, 0, none⟩) := Gd.get (hI.has 10 15 rfl (hall ⟨10, .data⟩ (by simp) rfl)) hc
      clear hI hall hnot hcl
      refine .inl ⟨(wanted_of rfl rfl (gg.trans (by rw [hc]))).trans rfl, ?_⟩
      clear gg
      unfold Oper.wp
      go_simp
      all_goals exact ⟨_, rfl, Gd.yes (by first | rfl | exact hc) rfl, ⟨_, rfl⟩⟩
    · simp at hq; subst hq
      have gg : act.tmps[14]?.getD undef = .bool u0 := hI.has 9 14 rfl (hall ⟨9, .guard⟩ (by simp) rfl)
      rcases Bool.eq_false_or_eq_true u0 with hc | hc
      case inr =>
        exact .inr ⟨(wanted_of rfl rfl (gg.trans (by rw [hc]))).trans rfl, Gd.no hc, ⟨_, rfl⟩⟩
      have g16 : act.tmps[16]?.getD undef = .pointer (some ⟨B, 0, none⟩) := Gd.get (hI.has 11 16 rfl (hall ⟨11, .data⟩ (by simp) rfl)) hc
      clear hI hall hnot hcl
      refine .inl ⟨(wanted_of rfl rfl (gg.trans (by rw [hc]))).trans rfl, ?_⟩
      clear gg
      unfold Oper.wp
      go_simp
      all_goals exact ⟨_, rfl, Gd.yes (by first | rfl | exact hc) rfl, ⟨_, rfl⟩⟩
    · simp at hq; subst hq
      have gg : act.tmps[14]?.getD undef = .bool u0 := hI.has 9 14 rfl (hall ⟨9, .guard⟩ (by simp) rfl)
      rcases Bool.eq_false_or_eq_true u0 with hc | hc
      case inr =>
        exact .inr ⟨(wanted_of rfl rfl (gg.trans (by rw [hc]))).trans rfl, Gd.no hc, ⟨_, rfl⟩⟩
      have g17 : act.tmps[17]?.getD undef = .pointer (some ⟨B, 1, none⟩) := Gd.get (hI.has 12 17 rfl (hall ⟨12, .data⟩ (by simp) rfl)) hc
      clear hI hall hnot hcl
      refine .inl ⟨(wanted_of rfl rfl (gg.trans (by rw [hc]))).trans rfl, ?_⟩
      clear gg
      unfold Oper.wp
      go_simp
      all_goals exact ⟨_, rfl, Gd.yes (by first | rfl | exact hc) rfl, ⟨_, rfl⟩⟩
    · simp at hq; subst hq
      have gg : act.tmps[14]?.getD undef = .bool u0 := hI.has 9 14 rfl (hall ⟨9, .guard⟩ (by simp) rfl)
      rcases Bool.eq_false_or_eq_true u0 with hc | hc
      case inr =>
        exact .inr ⟨(wanted_of rfl rfl (gg.trans (by rw [hc]))).trans rfl, Gd.no hc, ⟨_, rfl⟩⟩
      have g1 : act.tmps[1]?.getD undef = .pointer (some ⟨B', 0, none⟩) := hI.kept 1 (by kernel_rfl)
      clear hI hall hnot hcl
      refine .inl ⟨(wanted_of rfl rfl (gg.trans (by rw [hc]))).trans rfl, ?_⟩
      clear gg
      unfold Oper.wp
      go_simp
      all_goals exact ⟨_, rfl, Gd.yes (by first | rfl | exact hc) rfl, ⟨_, rfl⟩⟩
    · simp at hq; subst hq
      have gg : act.tmps[14]?.getD undef = .bool u0 := hI.has 9 14 rfl (hall ⟨9, .guard⟩ (by simp) rfl)
      rcases Bool.eq_false_or_eq_true u0 with hc | hc
      case inr =>
        exact .inr ⟨(wanted_of rfl rfl (gg.trans (by rw [hc]))).trans rfl, Gd.no hc, ⟨_, rfl⟩⟩
      have g19 : act.tmps[19]?.getD undef = .pointer (some ⟨B', 0, none⟩) := Gd.get (hI.has 14 19 rfl (hall ⟨14, .data⟩ (by simp) rfl)) hc
      clear hI hall hnot hcl
      refine .inl ⟨(wanted_of rfl rfl (gg.trans (by rw [hc]))).trans rfl, ?_⟩
      clear gg
      unfold Oper.wp
      go_simp
      all_goals exact ⟨_, rfl, Gd.yes (by first | rfl | exact hc) rfl, ⟨_, rfl⟩⟩
    · simp at hq; subst hq
      have gg : act.tmps[14]?.getD undef = .bool u0 := hI.has 9 14 rfl (hall ⟨9, .guard⟩ (by simp) rfl)
      rcases Bool.eq_false_or_eq_true u0 with hc | hc
      case inr =>
        exact .inr ⟨(wanted_of rfl rfl (gg.trans (by rw [hc]))).trans rfl, Gd.no hc, ⟨_, rfl⟩⟩
      have g20 : act.tmps[20]?.getD undef = .pointer (some ⟨B', 0, none⟩) := Gd.get (hI.has 15 20 rfl (hall ⟨15, .data⟩ (by simp) rfl)) hc
      clear hI hall hnot hcl
      refine .inl ⟨(wanted_of rfl rfl (gg.trans (by rw [hc]))).trans rfl, ?_⟩
      clear gg
      unfold Oper.wp
      go_simp
      all_goals exact ⟨_, rfl, Gd.yes (by first | rfl | exact hc) rfl, ⟨_, rfl⟩⟩
    · simp at hq; subst hq
      have gg : act.tmps[14]?.getD undef = .bool u0 := hI.has 9 14 rfl (hall ⟨9, .guard⟩ (by simp) rfl)
      rcases Bool.eq_false_or_eq_true u0 with hc | hc
      case inr =>
        exact .inr ⟨(wanted_of rfl rfl (gg.trans (by rw [hc]))).trans rfl, Gd.no hc, ⟨_, rfl⟩⟩
      have g21 : act.tmps[21]?.getD undef = .pointer (some ⟨B', 1, none⟩) := Gd.get (hI.has 16 21 rfl (hall ⟨16, .data⟩ (by simp) rfl)) hc
      clear hI hall hnot hcl
      refine .inl ⟨(wanted_of rfl rfl (gg.trans (by rw [hc]))).trans rfl, ?_⟩
      clear gg
      unfold Oper.wp
      go_simp
      all_goals exact ⟨_, rfl, Gd.yes (by first | rfl | exact hc) rfl, ⟨_, rfl⟩⟩
    · simp at hq; subst hq
      have gg : act.tmps[14]?.getD undef = .bool u0 := hI.has 9 14 rfl (hall ⟨9, .guard⟩ (by simp) rfl)
      rcases Bool.eq_false_or_eq_true u0 with hc | hc
      case inr =>
        exact .inr ⟨(wanted_of rfl rfl (gg.trans (by rw [hc]))).trans rfl, Gd.no hc, ⟨_, rfl⟩⟩
      have g18 : act.tmps[18]?.getD undef = .slice Y fy.length cy := Gd.get (hI.has 13 18 rfl (hall ⟨13, .data⟩ (by simp) rfl)) hc
      have g22 : act.tmps[22]?.getD undef = .slice Y' fy'.length cy' := Gd.get (hI.has 17 22 rfl (hall ⟨17, .data⟩ (by simp) rfl)) hc
      clear hI hall hnot hcl
      refine .inl ⟨(wanted_of rfl rfl (gg.trans (by rw [hc]))).trans rfl, ?_⟩
      clear gg
      unfold Oper.wp
      go_simp
      refine (A1 _).out.mono ?_
      rintro e w4 ⟨rfl, n4, rfl⟩
      exact ⟨_, rfl, Gd.yes (by first | rfl | exact hc) rfl, hdd _ _⟩
    · simp at hq; subst hq
      have g14 : act.tmps[14]?.getD undef = .bool u0 := hI.has 9 14 rfl (hall ⟨9, .data⟩ (by simp) rfl)
      have G23 := hI.has 18 23 rfl (hall ⟨18, .data⟩ (by simp) rfl)
      clear hI hall hnot hcl
      refine .inl ⟨wanted_none rfl, ?_⟩
      unfold Oper.wp
      rcases Bool.eq_false_or_eq_true u0 with hc | hc
      · rw [hc] at g14
        have g23 := Gd.get G23 hc
        clear G23
        go_simp
        all_goals exact ⟨_, rfl, by first | rfl | (rw [hc]; rfl), ⟨_, rfl⟩⟩
      · rw [hc] at g14
        have g23 := Gd.un G23 hc
        clear G23
        go_simp
        all_goals exact ⟨_, rfl, by first | rfl | (rw [hc]; rfl), ⟨_, rfl⟩⟩
    · simp at hq; subst hq
      have g24 : act.tmps[24]?.getD undef = .bool (u0 && u1) := hI.has 19 24 rfl (hall ⟨19, .data⟩ (by simp) rfl)
      clear hI hall hnot hcl
      refine .inl ⟨wanted_none rfl, ?_⟩
      unfold Oper.wp
      go_simp
      all_goals exact ⟨_, rfl, rfl, ⟨_, rfl⟩⟩
    · simp at hq; subst hq
      have gg : act.tmps[25]?.getD undef = .bool ((u0 && u1)) := hI.has 20 25 rfl (hall ⟨20, .guard⟩ (by simp) rfl)
      rcases Bool.eq_false_or_eq_true ((u0 && u1)) with hc | hc
      case inr =>
        exact .inr ⟨(wanted_of rfl rfl (gg.trans (by rw [hc]))).trans rfl, Gd.no hc, ⟨_, rfl⟩⟩
      have g0 : act.tmps[0]?.getD undef = .pointer (some ⟨B, 0, none⟩) := hI.kept 0 (by kernel_rfl)
      clear hI hall hnot hcl
      refine .inl ⟨(wanted_of rfl rfl (gg.trans (by rw [hc]))).trans rfl, ?_⟩
      clear gg
      unfold Oper.wp
      go_simp
      all_goals exact ⟨_, rfl, Gd.yes (by first | rfl | exact hc) rfl, ⟨_, rfl⟩⟩
    · simp at hq; subst hq
      have gg : act.tmps[25]?.getD undef = .bool ((u0 && u1)) := hI.has 20 25 rfl (hall ⟨20, .guard⟩ (by simp) rfl)
      rcases Bool.eq_false_or_eq_true ((u0 && u1)) with hc | hc
      case inr =>
        exact .inr ⟨(wanted_of rfl rfl (gg.trans (by rw [hc]))).trans rfl, Gd.no hc, ⟨_, rfl⟩⟩
      have g26 : act.tmps[26]?.getD undef = .pointer (some ⟨B, 0, none⟩) := Gd.get (hI.has 21 26 rfl (hall ⟨21, .data⟩ (by simp) rfl)) hc
      clear hI hall hnot hcl
      refine .inl ⟨(wanted_of rfl rfl (gg.trans (by rw [hc]))).trans rfl, ?_⟩
      clear gg
      unfold Oper.wp
      go_simp
      all_goals exact ⟨_, rfl, Gd.yes (by first | rfl | exact hc) rfl, ⟨_, rfl⟩⟩
    · simp at hq; subst hq
      have gg : act.tmps[25]?.getD undef = .bool ((u0 && u1)) := hI.has 20 25 rfl (hall ⟨20, .guard⟩ (by simp) rfl)
      rcases Bool.eq_false_or_eq_true ((u0 && u1)) with hc | hc
      case inr =>
        exact .inr ⟨(wanted_of rfl rfl (gg.trans (by rw [hc]))).trans rfl, Gd.no hc, ⟨_, rfl⟩⟩
      have g27 : act.tmps[27]?.getD undef = .pointer (some ⟨B, 0, none⟩) := Gd.get (hI.has 22 27 rfl (hall ⟨22, .data⟩ (by simp) rfl)) hc
      clear hI hall hnot hcl
      refine .inl ⟨(wanted_of rfl rfl (gg.trans (by rw [hc]))).trans rfl, ?_⟩
      clear gg
      unfold Oper.wp
      go_simp
      all_goals exact ⟨_, rfl, Gd.yes (by first | rfl | exact hc) rfl, ⟨_, rfl⟩⟩
    · simp at hq; subst hq
      have gg : act.tmps[25]?.getD undef = .bool ((u0 && u1)) := hI.has 20 25 rfl (hall ⟨20, .guard⟩ (by simp) rfl)
      rcases Bool.eq_false_or_eq_true ((u0 && u1)) with hc | hc
      case inr =>
        exact .inr ⟨(wanted_of rfl rfl (gg.trans (by rw [hc]))).trans rfl, Gd.no hc, ⟨_, rfl⟩⟩
      have g28 : act.tmps[28]?.getD undef = .pointer (some ⟨B, 2, none⟩) := Gd.get (hI.has 23 28 rfl (hall ⟨23, .data⟩ (by simp) rfl)) hc
      clear hI hall hnot hcl
      refine .inl ⟨(wanted_of rfl rfl (gg.trans (by rw [hc]))).trans rfl, ?_⟩
      clear gg
      unfold Oper.wp
      go_simp
      all_goals exact ⟨_, rfl, Gd.yes (by first | rfl | exact hc) rfl, ⟨_, rfl⟩⟩
    · simp at hq; subst hq
      have gg : act.tmps[25]?.getD undef = .bool ((u0 && u1)) := hI.has 20 25 rfl (hall ⟨20, .guard⟩ (by simp) rfl)
      rcases Bool.eq_false_or_eq_true ((u0 && u1)) with hc | hc
      case inr =>
        exact .inr ⟨(wanted_of rfl rfl (gg.trans (by rw [hc]))).trans rfl, Gd.no hc, ⟨_, rfl⟩⟩
      have g1 : act.tmps[1]?.getD undef = .pointer (some ⟨B', 0, none⟩) := hI.kept 1 (by kernel_rfl)
      clear hI hall hnot hcl
      refine .inl ⟨(wanted_of rfl rfl (gg.trans (by rw [hc]))).trans rfl, ?_⟩
      clear gg
      unfold Oper.wp
      go_simp
      all_goals exact ⟨_, rfl, Gd.yes (by first | rfl | exact hc) rfl, ⟨_, rfl⟩⟩
    · simp at hq; subst hq
      have gg : act.tmps[25]?.getD undef = .bool ((u0 && u1)) := hI.has 20 25 rfl (hall ⟨20, .guard⟩ (by simp) rfl)
      rcases Bool.eq_false_or_eq_true ((u0 && u1)) with hc | hc
      case inr =>
        exact .inr ⟨(wanted_of rfl rfl (gg.trans (by rw [hc]))).trans rfl, Gd.no hc, ⟨_, rfl⟩⟩
      have g30 : act.tmps[30]?.getD undef = .pointer (some ⟨B', 0, none⟩) := Gd.get (hI.has 25 30 rfl (hall ⟨25, .data⟩ (by simp) rfl)) hc
      clear hI hall hnot hcl
      refine .inl ⟨(wanted_of rfl rfl (gg.trans (by rw [hc]))).trans rfl, ?_⟩
      clear gg
      unfold Oper.wp
      go_simp
      all_goals exact ⟨_, rfl, Gd.yes (by first | rfl | exact hc) rfl, ⟨_, rfl⟩⟩
    · simp at hq; subst hq
      have gg : act.tmps[25]?.getD undef = .bool ((u0 && u1)) := hI.has 20 25 rfl (hall ⟨20, .guard⟩ (by simp) rfl)
      rcases Bool.eq_false_or_eq_true ((u0 && u1)) with hc | hc
      case inr =>
        exact .inr ⟨(wanted_of rfl rfl (gg.trans (by rw [hc]))).trans rfl, Gd.no hc, ⟨_, rfl⟩⟩
      have g31 : act.tmps[31]?.getD undef = .pointer (some ⟨B', 0, none⟩) := Gd.get (hI.has 26 31 rfl (hall ⟨26, .data⟩ (by simp) rfl)) hc
      clear hI hall hnot hcl
      refine .inl ⟨(wanted_of rfl rfl (gg.trans (by rw [hc]))).trans rfl, ?_⟩
      clear gg
      unfold Oper.wp
      go_simp
      all_goals exact ⟨_, rfl, Gd.yes (by first | rfl | exact hc) rfl, ⟨_, rfl⟩⟩
    · simp at hq; subst hq
      have gg : act.tmps[25]?.getD undef = .bool ((u0 && u1)) := hI.has 20 25 rfl (hall ⟨20, .guard⟩ (by simp) rfl)
      rcases Bool.eq_false_or_eq_true ((u0 && u1)) with hc | hc
      case inr =>
        exact .inr ⟨(wanted_of rfl rfl (gg.trans (by rw [hc]))).trans rfl, Gd.no hc, ⟨_, rfl⟩⟩
      have g32 : act.tmps[32]?.getD undef = .pointer (some ⟨B', 2, none⟩) := Gd.get (hI.has 27 32 rfl (hall ⟨27, .data⟩ (by simp) rfl)) hc
      clear hI hall hnot hcl
      refine .inl ⟨(wanted_of rfl rfl (gg.trans (by rw [hc]))).trans rfl, ?_⟩
      clear gg
      unfold Oper.wp
      go_simp
      all_goals exact ⟨_, rfl, Gd.yes (by first | rfl | exact hc) rfl, ⟨_, rfl⟩⟩
    · simp at hq; subst hq
      have gg : act.tmps[25]?.getD undef = .bool ((u0 && u1)) := hI.has 20 25 rfl (hall ⟨20, .guard⟩ (by simp) rfl)
      rcases Bool.eq_false_or_eq_true ((u0 && u1)) with hc | hc
      case inr =>
        exact .inr ⟨(wanted_of rfl rfl (gg.trans (by rw [hc]))).trans rfl, Gd.no hc, ⟨_, rfl⟩⟩
      have g29 : act.tmps[29]?.getD undef = .float .f32 fr := Gd.get (hI.has 24 29 rfl (hall ⟨24, .data⟩ (by simp) rfl)) hc
      have g33 : act.tmps[33]?.getD undef = .float .f32 fr' := Gd.get (hI.has 28 33 rfl (hall ⟨28, .data⟩ (by simp) rfl)) hc
      clear hI hall hnot hcl
      refine .inl ⟨(wanted_of rfl rfl (gg.trans (by rw [hc]))).trans rfl, ?_⟩
      clear gg
      unfold Oper.wp
      go_simp
      refine (Q0 _).out.mono ?_
      rintro e w4 ⟨rfl, rfl⟩
      exact ⟨_, rfl, Gd.yes (by first | rfl | exact hc) rfl, ⟨_, rfl⟩⟩
    · simp at hq; subst hq
      have g25 : act.tmps[25]?.getD undef = .bool (u0 && u1) := hI.has 20 25 rfl (hall ⟨20, .data⟩ (by simp) rfl)
      have G34 := hI.has 29 34 rfl (hall ⟨29, .data⟩ (by simp) rfl)
      clear hI hall hnot hcl
      refine .inl ⟨wanted_none rfl, ?_⟩
      unfold Oper.wp
      rcases Bool.eq_false_or_eq_true ((u0 && u1)) with hc | hc
      · rw [hc] at g25
        have g34 := Gd.get G34 hc
        clear G34
        go_simp
        all_goals exact ⟨_, rfl, by first | rfl | (rw [hc]; rfl), ⟨_, rfl⟩⟩
      · rw [hc] at g25
        have g34 := Gd.un G34 hc
        clear G34
        go_simp
        all_goals exact ⟨_, rfl, by first | rfl | (rw [hc]; rfl), ⟨_, rfl⟩⟩
    · simp at hq; subst hq
      have g35 : act.tmps[35]?.getD undef = .bool ((u0 && u1) && t0) := hI.has 30 35 rfl (hall ⟨30, .data⟩ (by simp) rfl)
      clear hI hall hnot hcl
      refine .inl ⟨wanted_none rfl, ?_⟩
      unfold Oper.wp
      go_simp
      all_goals exact ⟨_, rfl, rfl, ⟨_, rfl⟩⟩
    · simp at hq; subst hq
      have gg : act.tmps[36]?.getD undef = .bool (((u0 && u1) && t0)) := hI.has 31 36 rfl (hall ⟨31, .guard⟩ (by simp) rfl)
      rcases Bool.eq_false_or_eq_true (((u0 && u1) && t0)) with hc | hc
      case inr =>
        exact .inr ⟨(wanted_of rfl rfl (gg.trans (by rw [hc]))).trans rfl, Gd.no hc, ⟨_, rfl⟩⟩
      have g0 : act.tmps[0]?.getD undef = .pointer (some ⟨B, 0, none⟩) := hI.kept 0 (by kernel_rfl)
      clear hI hall hnot hcl
      refine .inl ⟨(wanted_of rfl rfl (gg.trans (by rw [hc]))).trans rfl, ?_⟩
      clear gg
      unfold Oper.wp
      go_simp
      all_goals exact ⟨_, rfl, Gd.yes (by first | rfl | exact hc) rfl, ⟨_, rfl⟩⟩
    · simp at hq; subst hq
      have gg : act.tmps[36]?.getD undef = .bool (((u0 && u1) && t0)) := hI.has 31 36 rfl (hall ⟨31, .guard⟩ (by simp) rfl)
      rcases Bool.eq_false_or_eq_true (((u0 && u1) && t0)) with hc | hc
      case inr =>
        exact .inr ⟨(wanted_of rfl rfl (gg.trans (by rw [hc]))).trans rfl, Gd.no hc, ⟨_, rfl⟩⟩
      have g37 : act.tmps[37]?.getD undef = .pointer (some ⟨B, 0, none⟩) := Gd.get (hI.has 32 37 rfl (hall ⟨32, .data⟩ (by simp) rfl)) hc
      clear hI hall hnot hcl
      refine .inl ⟨(wanted_of rfl rfl (gg.trans (by rw [hc]))).trans rfl, ?_⟩
      clear gg
      unfold Oper.wp
      go_simp
      all_goals exact ⟨_, rfl, Gd.yes (by first | rfl | exact hc) rfl, ⟨_, rfl⟩⟩
    · simp at hq; subst hq
      have gg : act.tmps[36]?.getD undef = .bool (((u0 && u1) && t0)) := hI.has 31 36 rfl (hall ⟨31, .guard⟩ (by simp) rfl)
      rcases Bool.eq_false_or_eq_true (((u0 && u1) && t0)) with hc | hc
      case inr =>
        exact .inr ⟨(wanted_of rfl rfl (gg.trans (by rw [hc]))).trans rfl, Gd.no hc, ⟨_, rfl⟩⟩
      have g38 : act.tmps[38]?.getD undef = .pointer (some ⟨B, 0, none⟩) := Gd.get (hI.has 33 38 rfl (hall ⟨33, .data⟩ (by simp) rfl)) hc
      clear hI hall hnot hcl
      refine .inl ⟨(wanted_of rfl rfl (gg.trans (by rw [hc]))).trans rfl, ?_⟩
      clear gg
      unfold Oper.wp
      go_simp
      all_goals exact ⟨_, rfl, Gd.yes (by first | rfl | exact hc) rfl, ⟨_, rfl⟩⟩
    · simp at hq; subst hq
      have gg : act.tmps[36]?.getD undef = .bool (((u0 && u1) && t0)) := hI.has 31 36 rfl (hall ⟨31, .guard⟩ (by simp) rfl)
      rcases Bool.eq_false_or_eq_true (((u0 && u1) && t0)) with hc | hc
      case inr =>
        exact .inr ⟨(wanted_of rfl rfl (gg.trans (by rw [hc]))).trans rfl, Gd.no hc, ⟨_, rfl⟩⟩
      have g39 : act.tmps[39]?.getD undef = .pointer (some ⟨B, 3, none⟩) := Gd.get (hI.has 34 39 rfl (hall ⟨34, .data⟩ (by simp) rfl)) hc
      clear hI hall hnot hcl
      refine .inl ⟨(wanted_of rfl rfl (gg.trans (by rw [hc]))).trans rfl, ?_⟩
      clear gg
      unfold Oper.wp
      go_simp
      all_goals exact ⟨_, rfl, Gd.yes (by first | rfl | exact hc) rfl, ⟨_, rfl⟩⟩
    · simp at hq; subst hq
      have gg : act.tmps[36]?.getD undef = .bool (((u0 && u1) && t0)) := hI.has 31 36 rfl (hall ⟨31, .guard⟩ (by simp) rfl)
      rcases Bool.eq_false_or_eq_true (((u0 && u1) && t0)) with hc | hc
      case inr =>
        exact .inr ⟨(wanted_of rfl rfl (gg.trans (by rw [hc]))).trans rfl, Gd.no hc, ⟨_, rfl⟩⟩
      have g1 : act.tmps[1]?.getD undef = .pointer (some ⟨B', 0, none⟩) := hI.kept 1 (by kernel_rfl)
      clear hI hall hnot hcl
      refine .inl ⟨(wanted_of rfl rfl (gg.trans (by rw [hc]))).trans rfl, ?_⟩
      clear gg
      unfold Oper.wp
      go_simp
      all_goals exact ⟨_, rfl, Gd.yes (by first | rfl | exact hc) rfl, ⟨_, rfl⟩⟩
    · simp at hq; subst hq
      have gg : act.tmps[36]?.getD undef = .bool (((u0 && u1) && t0)) := hI.has 31 36 rfl (hall ⟨31, .guard⟩ (by simp) rfl)
      rcases Bool.eq_false_or_eq_true (((u0 && u1) && t0)) with hc | hc
      case inr =>
        exact .inr ⟨(wanted_of rfl rfl (gg.trans (by rw [hc]))).trans rfl, Gd.no hc, ⟨_, rfl⟩⟩
      have g41 : act.tmps[41]?.getD undef = .pointer (some ⟨B', 0, none⟩) := Gd.get (hI.has 36 41 rfl (hall ⟨36, .data⟩ (by simp) rfl)) hc
      clear hI hall hnot hcl
      refine .inl ⟨(wanted_of rfl rfl (gg.trans (by rw [hc]))).trans rfl, ?_⟩
      clear gg
      unfold Oper.wp
      go_simp
      all_goals exact ⟨_, rfl, Gd.yes (by first | rfl | exact hc) rfl, ⟨_, rfl⟩⟩
    · simp at hq; subst hq
      have gg : act.tmps[36]?.getD undef = .bool (((u0 && u1) && t0)) := hI.has 31 36 rfl (hall ⟨31, .guard⟩ (by simp) rfl)
      rcases Bool.eq_false_or_eq_true (((u0 && u1) && t0)) with hc | hc
      case inr =>
        exact .inr ⟨(wanted_of rfl rfl (gg.trans (by rw [hc]))).trans rfl, Gd.no hc, ⟨_, rfl⟩⟩
      have g42 : act.tmps[42]?.getD undef = .pointer (some ⟨B', 0, none⟩) := Gd.get (hI.has 37 42 rfl (hall ⟨37, .data⟩ (by simp) rfl)) hc
      clear hI hall hnot hcl
      refine .inl ⟨(wanted_of rfl rfl (gg.trans (by rw [hc]))).trans rfl, ?_⟩
      clear gg
      unfold Oper.wp
      go_simp
      all_goals exact ⟨_, rfl, Gd.yes (by first | rfl | exact hc) rfl, ⟨_, rfl⟩⟩
    · simp at hq; subst hq
      have gg : act.tmps[36]?.getD undef = .bool (((u0 && u1) && t0)) := hI.has 31 36 rfl (hall ⟨31, .guard⟩ (by simp) rfl)
      rcases Bool.eq_false_or_eq_true (((u0 && u1) && t0)) with hc | hc
      case inr =>
        exact .inr ⟨(wanted_of rfl rfl (gg.trans (by rw [hc]))).trans rfl, Gd.no hc, ⟨_, rfl⟩⟩
      have g43 : act.tmps[43]?.getD undef = .pointer (some ⟨B', 3, none⟩) := Gd.get (hI.has 38 43 rfl (hall ⟨38, .data⟩ (by simp) rfl)) hc
      clear hI hall hnot hcl
      refine .inl ⟨(wanted_of rfl rfl (gg.trans (by rw [hc]))).trans rfl, ?_⟩
      clear gg
      unfold Oper.wp
      go_simp
      all_goals exact ⟨_, rfl, Gd.yes (by first | rfl | exact hc) rfl, ⟨_, rfl⟩⟩
    · simp at hq; subst hq
      have gg : act.tmps[36]?.getD undef = .bool (((u0 && u1) && t0)) := hI.has 31 36 rfl (hall ⟨31, .guard⟩ (by simp) rfl)
      rcases Bool.eq_false_or_eq_true (((u0 && u1) && t0)) with hc | hc
      case inr =>
        exact .inr ⟨(wanted_of rfl rfl (gg.trans (by rw [hc]))).trans rfl, Gd.no hc, ⟨_, rfl⟩⟩
      have g40 : act.tmps[40]?.getD undef = .float .f32 fd := Gd.get (hI.has 35 40 rfl (hall ⟨35, .data⟩ (by simp) rfl)) hc
      have g44 : act.tmps[44]?.getD undef = .float .f32 fd' := Gd.get (hI.has 39 44 rfl (hall ⟨39, .data⟩ (by simp) rfl)) hc
      clear hI hall hnot hcl
      refine .inl ⟨(wanted_of rfl rfl (gg.trans (by rw [hc]))).trans rfl, ?_⟩
      clear gg
      unfold Oper.wp
      go_simp
      refine (Q1 _).out.mono ?_
      rintro e w4 ⟨rfl, rfl⟩
      exact ⟨_, rfl, Gd.yes (by first | rfl | exact hc) rfl, ⟨_, rfl⟩⟩
    · simp at hq; subst hq
      have g36 : act.tmps[36]?.getD undef = .bool ((u0 && u1) && t0) := hI.has 31 36 rfl (hall ⟨31, .data⟩ (by simp) rfl)
      have G45 := hI.has 40 45 rfl (hall ⟨40, .data⟩ (by simp) rfl)
      clear hI hall hnot hcl
      refine .inl ⟨wanted_none rfl, ?_⟩
      unfold Oper.wp
      rcases Bool.eq_false_or_eq_true (((u0 && u1) && t0)) with hc | hc
      · rw [hc] at g36
        have g45 := Gd.get G45 hc
        clear G45
        go_simp
        all_goals exact ⟨_, rfl, by first | rfl | (rw [hc]; rfl), ⟨_, rfl⟩⟩
      · rw [hc] at g36
        have g45 := Gd.un G45 hc
        clear G45
        go_simp
        all_goals exact ⟨_, rfl, by first | rfl | (rw [hc]; rfl), ⟨_, rfl⟩⟩
    · simp at hq; subst hq
      have g46 : act.tmps[46]?.getD undef = .bool (((u0 && u1) && t0) && t1) := hI.has 41 46 rfl (hall ⟨41, .data⟩ (by simp) rfl)
      clear hI hall hnot hcl
      refine .inl ⟨wanted_none rfl, ?_⟩
      unfold Oper.wp
      go_simp
      all_goals exact ⟨_, rfl, rfl, ⟨_, rfl⟩⟩
    · simp at hq; subst hq
      have gg : act.tmps[47]?.getD undef = .bool ((((u0 && u1) && t0) && t1)) := hI.has 42 47 rfl (hall ⟨42, .guard⟩ (by simp) rfl)
      rcases Bool.eq_false_or_eq_true ((((u0 && u1) && t0) && t1)) with hc | hc
      case inr =>
        exact .inr ⟨(wanted_of rfl rfl (gg.trans (by rw [hc]))).trans rfl, Gd.no hc, ⟨_, rfl⟩⟩
      have g0 : act.tmps[0]?.getD undef = .pointer (some ⟨B, 0, none⟩) := hI.kept 0 (by kernel_rfl)
      clear hI hall hnot hcl
      refine .inl ⟨(wanted_of rfl rfl (gg.trans (by rw [hc]))).trans rfl, ?_⟩
      clear gg
      unfold Oper.wp
      go_simp
      all_goals exact ⟨_, rfl, Gd.yes (by first | rfl | exact hc) rfl, ⟨_, rfl⟩⟩
    · simp at hq; subst hq
      have gg : act.tmps[47]?.getD undef = .bool ((((u0 && u1) && t0) && t1)) := hI.has 42 47 rfl (hall ⟨42, .guard⟩ (by simp) rfl)
      rcases Bool.eq_false_or_eq_true ((((u0 && u1) && t0) && t1)) with hc | hc
      case inr =>
        exact .inr ⟨(wanted_of rfl rfl (gg.trans (by rw [hc]))).trans rfl, Gd.no hc, ⟨_, rfl⟩⟩
      have g48 : act.tmps[48]?.getD undef = .pointer (some ⟨B, 0, none⟩) := Gd.get (hI.has 43 48 rfl (hall ⟨43, .data⟩ (by simp) rfl)) hc
      clear hI hall hnot hcl
      refine .inl ⟨(wanted_of rfl rfl (gg.trans (by rw [hc]))).trans rfl, ?_⟩
      clear gg
      unfold Oper.wp
      go_simp
      all_goals exact ⟨_, rfl, Gd.yes (by first | rfl | exact hc) rfl, ⟨_, rfl⟩⟩
    · simp at hq; subst hq
      have gg : act.tmps[47]?.getD undef = .bool ((((u0 && u1) && t0) && t1)) := hI.has 42 47 rfl (hall ⟨42, .guard⟩ (by simp) rfl)
      rcases Bool.eq_false_or_eq_true ((((u0 && u1) && t0) && t1)) with hc | hc
      case inr =>
        exact .inr ⟨(wanted_of rfl rfl (gg.trans (by rw [hc]))).trans rfl, Gd.no hc, ⟨_, rfl⟩⟩
      have g49 : act.tmps[49]?.getD undef = .pointer (some ⟨B, 0, none⟩) := Gd.get (hI.has 44 49 rfl (hall ⟨44, .data⟩ (by simp) rfl)) hc
      clear hI hall hnot hcl
      refine .inl ⟨(wanted_of rfl rfl (gg.trans (by rw [hc]))).trans rfl, ?_⟩
      clear gg
      unfold Oper.wp
      go_simp
      all_goals exact ⟨_, rfl, Gd.yes (by first | rfl | exact hc) rfl, ⟨_, rfl⟩⟩
    · simp at hq; subst hq
      have gg : act.tmps[47]?.getD undef = .bool ((((u0 && u1) && t0) && t1)) := hI.has 42 47 rfl (hall ⟨42, .guard⟩ (by simp) rfl)
      rcases Bool.eq_false_or_eq_true ((((u0 && u1) && t0) && t1)) with hc | hc
      case inr =>
        exact .inr ⟨(wanted_of rfl rfl (gg.trans (by rw [hc]))).trans rfl, Gd.no hc, ⟨_, rfl⟩⟩
      have g50 : act.tmps[50]?.getD undef = .pointer (some ⟨B, 4, none⟩) := Gd.get (hI.has 45 50 rfl (hall ⟨45, .data⟩ (by simp) rfl)) hc
      clear hI hall hnot hcl
      refine .inl ⟨(wanted_of rfl rfl (gg.trans (by rw [hc]))).trans rfl, ?_⟩
      clear gg
      unfold Oper.wp
      go_simp
      all_goals exact ⟨_, rfl, Gd.yes (by first | rfl | exact hc) rfl, ⟨_, rfl⟩⟩
    · simp at hq; subst hq
      have gg : act.tmps[47]?.getD undef = .bool ((((u0 && u1) && t0) && t1)) := hI.has 42 47 rfl (hall ⟨42, .guard⟩ (by simp) rfl)
      rcases Bool.eq_false_or_eq_true ((((u0 && u1) && t0) && t1)) with hc | hc
      case inr =>
        exact .inr ⟨(wanted_of rfl rfl (gg.trans (by rw [hc]))).trans rfl, Gd.no hc, ⟨_, rfl⟩⟩
      have g1 : act.tmps[1]?.getD undef = .pointer (some ⟨B', 0, none⟩) := hI.kept 1 (by kernel_rfl)
      clear hI hall hnot hcl
      refine .inl ⟨(wanted_of rfl rfl (gg.trans (by rw [hc]))).trans rfl, ?_⟩
      clear gg
      unfold Oper.wp
      go_simp
      all_goals exact ⟨_, rfl, Gd.yes (by first | rfl | exact hc) rfl, ⟨_, rfl⟩⟩
    · simp at hq; subst hq
      have gg : act.tmps[47]?.getD undef = .bool ((((u0 && u1) && t0) && t1)) := hI.has 42 47 rfl (hall ⟨42, .guard⟩ (by simp) rfl)
      rcases Bool.eq_false_or_eq_true ((((u0 && u1) && t0) && t1)) with hc | hc
      case inr =>
        exact .inr ⟨(wanted_of rfl rfl (gg.trans (by rw [hc]))).trans rfl, Gd.no hc, ⟨_, rfl⟩⟩
      have g52 : act.tmps[52]?.getD undef = .pointer (some ⟨B', 0, none⟩) := Gd.get (hI.has 47 52 rfl (hall ⟨47, .data⟩ (by simp) rfl)) hc
      clear hI hall hnot hcl
      refine .inl ⟨(wanted_of rfl rfl (gg.trans (by rw [hc]))).trans rfl, ?_⟩
      clear gg
      unfold Oper.wp
      go_simp
      all_goals exact ⟨_, rfl, Gd.yes (by first | rfl | exact hc) rfl, ⟨_, rfl⟩⟩
    · simp at hq; subst hq
      have gg : act.tmps[47]?.getD undef = .bool ((((u0 && u1) && t0) && t1)) := hI.has 42 47 rfl (hall ⟨42, .guard⟩ (by simp) rfl)
      rcases Bool.eq_false_or_eq_true ((((u0 && u1) && t0) && t1)) with hc | hc
      case inr =>
        exact .inr ⟨(wanted_of rfl rfl (gg.trans (by rw [hc]))).trans rfl, Gd.no hc, ⟨_, rfl⟩⟩
      have g53 : act.tmps[53]?.getD undef = .pointer (some ⟨B', 0, none⟩) := Gd.get (hI.has 48 53 rfl (hall ⟨48, .data⟩ (by simp) rfl)) hc
      clear hI hall hnot hcl
      refine .inl ⟨(wanted_of rfl rfl (gg.trans (by rw [hc]))).trans rfl, ?_⟩
      clear gg
      unfold Oper.wp
      go_simp
      all_goals exact ⟨_, rfl, Gd.yes (by first | rfl | exact hc) rfl, ⟨_, rfl⟩⟩
    · simp at hq; subst hq
      have gg : act.tmps[47]?.getD undef = .bool ((((u0 && u1) && t0) && t1)) := hI.has 42 47 rfl (hall ⟨42, .guard⟩ (by simp) rfl)
      rcases Bool.eq_false_or_eq_true ((((u0 && u1) && t0) && t1)) with hc | hc
      case inr =>
        exact .inr ⟨(wanted_of rfl rfl (gg.trans (by rw [hc]))).trans rfl, Gd.no hc, ⟨_, rfl⟩⟩
      have g54 : act.tmps[54]?.getD undef = .pointer (some ⟨B', 4, none⟩) := Gd.get (hI.has 49 54 rfl (hall ⟨49, .data⟩ (by simp) rfl)) hc
      clear hI hall hnot hcl
      refine .inl ⟨(wanted_of rfl rfl (gg.trans (by rw [hc]))).trans rfl, ?_⟩
      clear gg
      unfold Oper.wp
      go_simp
      all_goals exact ⟨_, rfl, Gd.yes (by first | rfl | exact hc) rfl, ⟨_, rfl⟩⟩
    · simp at hq; subst hq
      have gg : act.tmps[47]?.getD undef = .bool ((((u0 && u1) && t0) && t1)) := hI.has 42 47 rfl (hall ⟨42, .guard⟩ (by simp) rfl)
      rcases Bool.eq_false_or_eq_true ((((u0 && u1) && t0) && t1)) with hc | hc
      case inr =>
        exact .inr ⟨(wanted_of rfl rfl (gg.trans (by rw [hc]))).trans rfl, Gd.no hc, ⟨_, rfl⟩⟩
      have g51 : act.tmps[51]?.getD undef = .float .f32 fs := Gd.get (hI.has 46 51 rfl (hall ⟨46, .data⟩ (by simp) rfl)) hc
      have g55 : act.tmps[55]?.getD undef = .float .f32 fs' := Gd.get (hI.has 50 55 rfl (hall ⟨50, .data⟩ (by simp) rfl)) hc
      clear hI hall hnot hcl
      refine .inl ⟨(wanted_of rfl rfl (gg.trans (by rw [hc]))).trans rfl, ?_⟩
      clear gg
      unfold Oper.wp
      go_simp
      refine (Q2 _).out.mono ?_
      rintro e w4 ⟨rfl, rfl⟩
      exact ⟨_, rfl, Gd.yes (by first | rfl | exact hc) rfl, ⟨_, rfl⟩⟩
    · simp at hq; subst hq
      have g47 : act.tmps[47]?.getD undef = .bool (((u0 && u1) && t0) && t1) := hI.has 42 47 rfl (hall ⟨42, .data⟩ (by simp) rfl)
      have G56 := hI.has 51 56 rfl (hall ⟨51, .data⟩ (by simp) rfl)
      clear hI hall hnot hcl
      refine .inl ⟨wanted_none rfl, ?_⟩
      unfold Oper.wp
      rcases Bool.eq_false_or_eq_true ((((u0 && u1) && t0) && t1)) with hc | hc
      · rw [hc] at g47
        have g56 := Gd.get G56 hc
        clear G56
        go_simp
        all_goals exact ⟨_, rfl, by first | rfl | (rw [hc]; rfl), ⟨_, rfl⟩⟩
      · rw [hc] at g47
        have g56 := Gd.un G56 hc
        clear G56
        go_simp
        all_goals exact ⟨_, rfl, by first | rfl | (rw [hc]; rfl), ⟨_, rfl⟩⟩
    · simp at hq; subst hq
      have g57 : act.tmps[57]?.getD undef = .bool ((((u0 && u1) && t0) && t1) && t2) := hI.has 52 57 rfl (hall ⟨52, .data⟩ (by simp) rfl)
      clear hI hall hnot hcl
      refine .inl ⟨wanted_none rfl, ?_⟩
      unfold Oper.wp
      go_simp
      all_goals exact ⟨_, rfl, rfl, ⟨_, rfl⟩⟩
    · simp at hq
  case hend =>
    intro listed act w3 hI hall
    obtain ⟨nn, rfl⟩ := hI.cls
    have g4 : act.tmps[4]?.getD undef = .bool ((((u0 && u1) && t0) && t1) && t2) := hI.has 53 4 rfl (hall 53 (by decide))
    have hd := hI.defers
    clear hI hall
    go_wp2
    refine bodyPost_ret (v := .bool ((((u0 && u1) && t0) && t1) && t2)) (by simp [results, Try.results139, g4, go_sem]) (by first | rfl | exact hd) ?_
    first | refine ⟨?_, nn, rfl⟩ | refine ⟨nn, ?_, rfl⟩
    rw [HE.out]
    simp only [Bool.and_assoc]
set_option maxHeartbeats 8000000 in
theorem i_bitsOfFarm (X Y : Option Addr) (cx cy : Nat) (fx fy : List Nat) (fr fd fs : Nat) (w : World) (hv : fr < words .f32 ∧ fd < words .f32 ∧ fs < words .f32) :
    Calls Try.prog 187 #[.agg #[.slice X fx.length cx, .slice Y fy.length cy, .float .f32 fr, .float .f32 fd, .float .f32 fs]] w fun e w' => e = .returned (.agg #[.int .i64 (canon .f32 fr), .int .i64 (canon .f32 fd), .int .i64 (canon .f32 fs)]) ∧ Below w.heap.size w w' := by
  have Wfr := Lib.hid (canon_lt hv.1)
  have Wfd := Lib.hid (canon_lt hv.2.1)
  have Wfs := Lib.hid (canon_lt hv.2.2)
  clear hv
  obtain ⟨w1, hw1⟩ : ∃ x, x = (w.alloc (.cells #[.slice X fx.length cx, .slice Y fy.length cy, .float .f32 fr, .float .f32 fd, .float .f32 fs] 79)).alloc (.cells #[.int .i64 0, .int .i64 0, .int .i64 0] 199) := ⟨_, rfl⟩
  have HB1 : Hid (Below w.heap.size w w1) := Lib.hid (by rw [hw1]; exact ((Below.refl _ _).alloc (Nat.le_refl _) _).alloc (by simp) _)
  have K0 : Hid (BlkL w1 w.heap.size [.slice X fx.length cx, .slice Y fy.length cy, .float .f32 fr, .float .f32 fd, .float .f32 fs]) := Lib.hid (by rw [hw1]; exact (blkL_at w #[.slice X fx.length cx, .slice Y fy.length cy, .float .f32 fr, .float .f32 fd, .float .f32 fs] _ rfl).alloc _)
  have K1 : Hid (BlkL w1 (w.heap.size + 1) [.int .i64 0, .int .i64 0, .int .i64 0]) := Lib.hid (by rw [hw1]; exact blkL_at (w.alloc _) #[.int .i64 0, .int .i64 0, .int .i64 0] _ (by simp))
  have hFin : ∀ a b : World, Below a.heap.size a b → BlkL a (w.heap.size + 1) [.int .i64 (canon .f32 fr), .int .i64 (canon .f32 fd), .int .i64 (canon .f32 fs)] → BlkL b (w.heap.size + 1) [.int .i64 (canon .f32 fr), .int .i64 (canon .f32 fd), .int .i64 (canon .f32 fs)] := fun _ _ hb h => h.below hb
  go_enter Try.func187, Try.ntmps187
  go_wp2_with fail
  rw [← hw1]
  clear hw1
  refine wp_region_inv4 (fun iq wv v => match iq with
    | 0 => v = .pointer (some ⟨w.heap.size, 2, none⟩)
    | 1 => v = .float .f32 fr
    | 2 => v = .int .i64 (canon .f32 fr)
    | 3 => v = .pointer (some ⟨w.heap.size, 3, none⟩)
    | 4 => v = .float .f32 fd
    | 5 => v = .int .i64 (canon .f32 fd)
    | 6 => v = .pointer (some ⟨w.heap.size, 4, none⟩)
    | 7 => v = .float .f32 fs
    | 8 => v = .int .i64 (canon .f32 fs)
    | 9 => v = .agg #[.int .i64 (canon .f32 fr), .int .i64 (canon .f32 fd), .int .i64 (canon .f32 fs)]
    | 10 => True
    | _ => False) (StC w1 (w.heap.size + 1) 3 10 (fun W => BlkL W (w.heap.size + 1) [.int .i64 (canon .f32 fr), .int .i64 (canon .f32 fd), .int .i64 (canon .f32 fs)])) (fun wa wb => Turn wa wb (fun b => b = (w.heap.size + 1))) ?hmono (by kernel_rfl) (by kernel_rfl) (StC.start K1.out rfl) ?hop ?hend
  case hmono =>
    intro i wa wb v hR hV
    rcases i with _ | _ | _ | _ | _ | _ | _ | _ | _ | _ | _ | i
    · exact hV
    · exact hV
    · exact hV
    · exact hV
    · exact hV
    · exact hV
    · exact hV
    · exact hV
    · exact hV
    · exact hV
    · exact hV
    · exact hV
  case hop =>
    intro q o hq listed act w3 hI hnot hcl hall
    have hC := hI.cls
    have hlen : listed.size = 11 := hI.len
    have HK0 : BlkL w3 w.heap.size [.slice X fx.length cx, .slice Y fy.length cy, .float .f32 fr, .float .f32 fd, .float .f32 fs] := K0.out.turnS hC.1 (by omega)
    obtain ⟨k0, k1, k2, k3, k4⟩ := HK0.five
    rcases q with _ | _ | _ | _ | _ | _ | _ | _ | _ | _ | _ | q
    · simp at hq; subst hq
      have g1 : act.tmps[1]?.getD undef = .pointer (some ⟨w.heap.size, 0, none⟩) := hI.kept 1 (by kernel_rfl)
      clear hI hall hnot hcl
      refine .inl ⟨wanted_none rfl, ?_⟩
      unfold Oper.wp
      go_simp
      all_goals exact ⟨_, rfl, Turn.refl _ _, rfl, StC.step (k := 0) hC (Below.refl _ _) hFin (by decide) (by rw [hlen]; decide)⟩
    · simp at hq; subst hq
      have g3 : act.tmps[3]?.getD undef = .pointer (some ⟨w.heap.size, 2, none⟩) := hI.has 0 3 rfl (hall ⟨0, .data⟩ (by simp) rfl)
      clear hI hall hnot hcl
      refine .inl ⟨wanted_none rfl, ?_⟩
      unfold Oper.wp
      go_simp
      all_goals exact ⟨_, rfl, Turn.refl _ _, rfl, StC.step (k := 1) hC (Below.refl _ _) hFin (by decide) (by rw [hlen]; decide)⟩
    · simp at hq; subst hq
      have g4 : act.tmps[4]?.getD undef = .float .f32 fr := hI.has 1 4 rfl (hall ⟨1, .data⟩ (by simp) rfl)
      clear hI hall hnot hcl
      refine .inl ⟨wanted_none rfl, ?_⟩
      unfold Oper.wp
      go_simp
      refine (bitsOf_any _ _ Wfr.out).mono ?_
      rintro e w4 ⟨n4, rfl, rfl⟩
      exact ⟨_, rfl, Turn.draws _ _ _, rfl, StC.step (k := 2) hC (below_draws (Below.refl _ _) _) hFin (by decide) (by rw [hlen]; decide)⟩
    · simp at hq; subst hq
      have g1 : act.tmps[1]?.getD undef = .pointer (some ⟨w.heap.size, 0, none⟩) := hI.kept 1 (by kernel_rfl)
      clear hI hall hnot hcl
      refine .inl ⟨wanted_none rfl, ?_⟩
      unfold Oper.wp
      go_simp
      all_goals exact ⟨_, rfl, Turn.refl _ _, rfl, StC.step (k := 3) hC (Below.refl _ _) hFin (by decide) (by rw [hlen]; decide)⟩
    · simp at hq; subst hq
      have g6 : act.tmps[6]?.getD undef = .pointer (some ⟨w.heap.size, 3, none⟩) := hI.has 3 6 rfl (hall ⟨3, .data⟩ (by simp) rfl)
      clear hI hall hnot hcl
      refine .inl ⟨wanted_none rfl, ?_⟩
      unfold Oper.wp
      go_simp
      all_goals exact ⟨_, rfl, Turn.refl _ _, rfl, StC.step (k := 4) hC (Below.refl _ _) hFin (by decide) (by rw [hlen]; decide)⟩
    · simp at hq; subst hq
      have g7 : act.tmps[7]?.getD undef = .float .f32 fd := hI.has 4 7 rfl (hall ⟨4, .data⟩ (by simp) rfl)
      clear hI hall hnot hcl
      refine .inl ⟨wanted_none rfl, ?_⟩
      unfold Oper.wp
      go_simp
      refine (bitsOf_any _ _ Wfd.out).mono ?_
      rintro e w4 ⟨n4, rfl, rfl⟩
      exact ⟨_, rfl, Turn.draws _ _ _, rfl, StC.step (k := 5) hC (below_draws (Below.refl _ _) _) hFin (by decide) (by rw [hlen]; decide)⟩
    · simp at hq; subst hq
      have g1 : act.tmps[1]?.getD undef = .pointer (some ⟨w.heap.size, 0, none⟩) := hI.kept 1 (by kernel_rfl)
      clear hI hall hnot hcl
      refine .inl ⟨wanted_none rfl, ?_⟩
      unfold Oper.wp
      go_simp
      all_goals exact ⟨_, rfl, Turn.refl _ _, rfl, StC.step (k := 6) hC (Below.refl _ _) hFin (by decide) (by rw [hlen]; decide)⟩
    · simp at hq; subst hq
      have g9 : act.tmps[9]?.getD undef = .pointer (some ⟨w.heap.size, 4, none⟩) := hI.has 6 9 rfl (hall ⟨6, .data⟩ (by simp) rfl)
      clear hI hall hnot hcl
      refine .inl ⟨wanted_none rfl, ?_⟩
      unfold Oper.wp
      go_simp
      all_goals exact ⟨_, rfl, Turn.refl _ _, rfl, StC.step (k := 7) hC (Below.refl _ _) hFin (by decide) (by rw [hlen]; decide)⟩
    · simp at hq; subst hq
      have g10 : act.tmps[10]?.getD undef = .float .f32 fs := hI.has 7 10 rfl (hall ⟨7, .data⟩ (by simp) rfl)
      clear hI hall hnot hcl
      refine .inl ⟨wanted_none rfl, ?_⟩
      unfold Oper.wp
      go_simp
      refine (bitsOf_any _ _ Wfs.out).mono ?_
      rintro e w4 ⟨n4, rfl, rfl⟩
      exact ⟨_, rfl, Turn.draws _ _ _, rfl, StC.step (k := 8) hC (below_draws (Below.refl _ _) _) hFin (by decide) (by rw [hlen]; decide)⟩
    · simp at hq; subst hq
      have g5 : act.tmps[5]?.getD undef = .int .i64 (canon .f32 fr) := hI.has 2 5 rfl (hall ⟨2, .data⟩ (by simp) rfl)
      have g8 : act.tmps[8]?.getD undef = .int .i64 (canon .f32 fd) := hI.has 5 8 rfl (hall ⟨5, .data⟩ (by simp) rfl)
      have g11 : act.tmps[11]?.getD undef = .int .i64 (canon .f32 fs) := hI.has 8 11 rfl (hall ⟨8, .data⟩ (by simp) rfl)
      clear hI hall hnot hcl
      refine .inl ⟨wanted_none rfl, ?_⟩
      unfold Oper.wp
      go_simp
      all_goals exact ⟨_, rfl, Turn.refl _ _, rfl, StC.step (k := 9) hC (Below.refl _ _) hFin (by decide) (by rw [hlen]; decide)⟩
    · simp at hq; subst hq
      have g2 : act.tmps[2]?.getD undef = .pointer (some ⟨(w.heap.size + 1), 0, none⟩) := hI.kept 2 (by kernel_rfl)
      have g12 : act.tmps[12]?.getD undef = .agg #[.int .i64 (canon .f32 fr), .int .i64 (canon .f32 fd), .int .i64 (canon .f32 fs)] := hI.has 9 12 rfl (hall ⟨9, .data⟩ (by simp) rfl)
      clear hI hall hnot hcl
      refine .inl ⟨wanted_none rfl, ?_⟩
      unfold Oper.wp
      go_simp
      obtain ⟨vs, hvs, hvl⟩ := hC.2.1
      match vs, hvs, hvl with
      | [a0, a1, a2], hvs, _ =>
      have p0 := (hvs.2 0 _ rfl).1
      have q0 := (hvs.2 0 _ rfl).2
      have p1 := (hvs.2 1 _ rfl).1
      have q1 := (hvs.2 1 _ rfl).2
      have p2 := (hvs.2 2 _ rfl).1
      have q2 := (hvs.2 2 _ rfl).2
      go_simp
      have hf := ((hvs.set (i := 0) (by simp) (.int .i64 (canon .f32 fr))).set (i := 1) (by simp) (.int .i64 (canon .f32 fd))).set (i := 2) (by simp) (.int .i64 (canon .f32 fs))
      have ht := ((Turn.set w3 (B := w.heap.size + 1) ⟨w.heap.size + 1, 0, none⟩ rfl (.int .i64 (canon .f32 fr))).trans (Turn.set _ (B := w.heap.size + 1) ⟨w.heap.size + 1, 1, none⟩ rfl (.int .i64 (canon .f32 fd)))).trans (Turn.set _ (B := w.heap.size + 1) ⟨w.heap.size + 1, 2, none⟩ rfl (.int .i64 (canon .f32 fs)))
      first | exact ⟨ht, StC.store hC ht hf rfl hf⟩ | exact ⟨ht, trivial, StC.store hC ht hf rfl hf⟩
    · simp at hq
  case hend =>
    intro listed act w3 hI hall
    have hC := hI.cls
    have hlen : listed.size = 11 := hI.len
    have HK0 : BlkL w3 w.heap.size [.slice X fx.length cx, .slice Y fy.length cy, .float .f32 fr, .float .f32 fd, .float .f32 fs] := K0.out.turnS hC.1 (by omega)
    obtain ⟨k0, k1, k2, k3, k4⟩ := HK0.five
    have hF := hI.cls.2.2 (hall 10 (by decide))
    have ht := hI.cls.1
    have g2 : act.tmps[2]?.getD undef = .pointer (some ⟨(w.heap.size + 1), 0, none⟩) := hI.kept 2 (by kernel_rfl)
    have hd := hI.defers
    clear hI hall hFin
    have c0 := (hF.2 0 _ rfl).1
    have c1 := (hF.2 1 _ rfl).1
    have c2 := (hF.2 2 _ rfl).1
    go_wp2
    refine bodyPost_ret (v := .agg #[.int .i64 (canon .f32 fr), .int .i64 (canon .f32 fd), .int .i64 (canon .f32 fs)]) (by simp [results, Try.results187, g2, c0, c1, c2, go_sem]) (by first | rfl | exact hd) ⟨rfl, ?_⟩
    exact ht.2.2.2 w HB1.out (fun b hb => by rw [hb]; omega)
theorem eq_i64 (a b : Nat) : ((a : Int) == (b : Int)) = decide (a = b) := by
  by_cases h : a = b
  · subst h; simp
  · rw [decide_eq_false h, beq_eq_false_iff_ne]; omega
theorem run_eqBits (a b c a' b' c' : Int) (w : World) : (binOp .eql 199 (.agg #[.int .i64 a, .int .i64 b, .int .i64 c]) (.agg #[.int .i64 a', .int .i64 b', .int .i64 c'])).run Try.prog w = .ok (.bool ((a == a') && ((b == b') && (c == c')))) w := by
  have u3 := Try.underlying2
  have hS : Try.prog.underlying 199 = some (.struct (Try.prog.fieldsOf 199)) := by kernel_rfl
  have hp : Try.prog.stoodInHeld 199 = false := by kernel_rfl
  rw [run_eql_struct, show (10000 : Nat) = 9999 + 1 from rfl, run_equalIn_agg w 9999 199 _ _ hS hp]
  simp only [Program.fieldsOf, Try.underlying199]
  go_simp
  by_cases h1 : a = a' <;> by_cases h2 : b = b' <;> by_cases h3 : c = c' <;> simp [h1, h2, h3]
set_option maxHeartbeats 16000000 in
set_option maxRecDepth 100000 in
theorem i_SameFarm (X Y : Option Addr) (cx cy : Nat) (fx fy : List Nat) (fr fd fs : Nat) (X' Y' : Option Addr) (cx' cy' : Nat) (fx' fy' : List Nat) (fr' fd' fs' : Nat) (w : World) (h : Rs w X Y fx fy) (h' : Rs w X' Y' fx' fy') (hn : FewS fx fy) (hn' : FewS fx' fy') (hw : (∀ x ∈ fx, x < words .f32) ∧ ∀ x ∈ fy, x < words .f32) (hw' : (∀ x ∈ fx', x < words .f32) ∧ ∀ x ∈ fy', x < words .f32) (hv : fr < words .f32 ∧ fd < words .f32 ∧ fs < words .f32) (hv' : fr' < words .f32 ∧ fd' < words .f32 ∧ fs' < words .f32) :
    Calls Try.prog 144 #[.agg #[.slice X fx.length cx, .slice Y fy.length cy, .float .f32 fr, .float .f32 fd, .float .f32 fs], .agg #[.slice X' fx'.length cx', .slice Y' fy'.length cy', .float .f32 fr', .float .f32 fd', .float .f32 fs']] w fun e w' => e = .returned (.bool (frmE fx fy fr fd fs fx' fy' fr' fd' fs')) ∧ Below w.heap.size w w' := by
  have QB0 : ∀ W, Hid (Calls Try.prog 187 #[.agg #[.slice X fx.length cx, .slice Y fy.length cy, .float .f32 fr, .float .f32 fd, .float .f32 fs]] W fun e w' => e = .returned (.agg #[.int .i64 (canon .f32 fr), .int .i64 (canon .f32 fd), .int .i64 (canon .f32 fs)]) ∧ Below W.heap.size W w') := fun W => Lib.hid (i_bitsOfFarm X Y cx cy fx fy fr fd fs W hv)
  have QB1 : ∀ W, Hid (Calls Try.prog 187 #[.agg #[.slice X' fx'.length cx', .slice Y' fy'.length cy', .float .f32 fr', .float .f32 fd', .float .f32 fs']] W fun e w' => e = .returned (.agg #[.int .i64 (canon .f32 fr'), .int .i64 (canon .f32 fd'), .int .i64 (canon .f32 fs')]) ∧ Below W.heap.size W w') := fun W => Lib.hid (i_bitsOfFarm X' Y' cx' cy' fx' fy' fr' fd' fs' W hv')
  unfold FewS at hn hn'
  have HP := Lib.hid h; have HP' := Lib.hid h'
  have HW := Lib.hid hw; have HW' := Lib.hid hw'
  obtain ⟨w1, hw1⟩ : ∃ w1, w1 = (w.alloc (.cells #[.slice X fx.length cx, .slice Y fy.length cy, .float .f32 fr, .float .f32 fd, .float .f32 fs] 79)).alloc (.cells #[.slice X' fx'.length cx', .slice Y' fy'.length cy', .float .f32 fr', .float .f32 fd', .float .f32 fs'] 79) := ⟨_, rfl⟩
  have B1 : Hid (Below w.heap.size w w1) := Lib.hid (by rw [hw1]; exact ((Below.refl _ _).alloc (Nat.le_refl _) _).alloc (by simp) _)
  have K1 := Lib.hid (show BlkL w1 w.heap.size [.slice X fx.length cx, .slice Y fy.length cy, .float .f32 fr, .float .f32 fd, .float .f32 fs] by rw [hw1]; exact (blkL_at w #[.slice X fx.length cx, .slice Y fy.length cy, .float .f32 fr, .float .f32 fd, .float .f32 fs] _ rfl).alloc _)
  have K2 := Lib.hid (show BlkL w1 (w.heap.size + 1) [.slice X' fx'.length cx', .slice Y' fy'.length cy', .float .f32 fr', .float .f32 fd', .float .f32 fs'] by rw [hw1]; exact blkL_at (w.alloc _) #[.slice X' fx'.length cx', .slice Y' fy'.length cy', .float .f32 fr', .float .f32 fd', .float .f32 fs'] _ (by simp))
  have A0 : ∀ W, Below w.heap.size w W → Hid (Calls Try.prog 186 #[.slice X fx.length cx, .slice X' fx'.length cx', .func (.func 184) #[] #[]] W fun e w' => e = .returned (.bool (samL1 fx fx')) ∧ ∃ n, w' = W.drewN n) := fun W hb => Lib.hid (lib_EqualFunc_same X X' cx cx' fx fx' _ (HP.out.1.below hb) (HP'.out.1.below hb) (by omega) (by omega) HW.out.1 HW'.out.1)
  have A1 : ∀ W, Below w.heap.size w W → Hid (Calls Try.prog 186 #[.slice Y fy.length cy, .slice Y' fy'.length cy', .func (.func 184) #[] #[]] W fun e w' => e = .returned (.bool (samL1 fy fy')) ∧ ∃ n, w' = W.drewN n) := fun W hb => Lib.hid (lib_EqualFunc_same Y Y' cy cy' fy fy' _ (HP.out.2.below hb) (HP'.out.2.below hb) (by omega) (by omega) HW.out.2 HW'.out.2)
  have HU : Hid (((canon .f32 fr : Int) == (canon .f32 fr' : Int) && ((canon .f32 fd : Int) == (canon .f32 fd' : Int) && (canon .f32 fs : Int) == (canon .f32 fs' : Int))) = (samN1 fr fr' && (samN1 fd fd' && samN1 fs fs'))) := Lib.hid (by simp only [eq_i64]; rfl)
  have HE : Hid (frmE fx fy fr fd fs fx' fy' fr' fd' fs' = (samL1 fx fx' && (samL1 fy fy' && (samN1 fr fr' && (samN1 fd fd' && samN1 fs fs'))))) := rfl
  have hrun := fun W => run_eqBits (canon .f32 fr : Int) (canon .f32 fd : Int) (canon .f32 fs : Int) (canon .f32 fr' : Int) (canon .f32 fd' : Int) (canon .f32 fs' : Int) W
  clear h h' hw hw' hv hv' hn hn' HP HP' HW HW'
  generalize (samN1 fr fr' && (samN1 fd fd' && samN1 fs fs')) = ub at HU HE
  generalize samL1 fx fx' = u0 at A0 HE
  generalize samL1 fy fy' = u1 at A1 HE
  go_enter Try.func144, Try.ntmps144
  go_wp2_with fail
  rw [← hw1]
  clear hw1
  refine wp_region_inv4 (fun iq wv v => match iq with
    | 0 => v = .pointer (some ⟨w.heap.size, 0, none⟩)
    | 1 => v = .slice X fx.length cx
    | 2 => v = .pointer (some ⟨(w.heap.size + 1), 0, none⟩)
    | 3 => v = .slice X' fx'.length cx'
    | 4 => v = .bool u0
    | 5 => v = .bool u0
    | 6 => Gd u0 true (v = .pointer (some ⟨w.heap.size, 1, none⟩)) v
    | 7 => Gd u0 true (v = .slice Y fy.length cy) v
    | 8 => Gd u0 true (v = .pointer (some ⟨(w.heap.size + 1), 1, none⟩)) v
    | 9 => Gd u0 true (v = .slice Y' fy'.length cy') v
    | 10 => Gd u0 true (v = .bool u1) v
    | 11 => v = .bool (u0 && u1)
    | 12 => v = .bool (u0 && u1)
    | 13 => Gd ((u0 && u1)) true (v = .agg #[.slice X fx.length cx, .slice Y fy.length cy, .float .f32 fr, .float .f32 fd, .float .f32 fs]) v
    | 14 => Gd ((u0 && u1)) true (v = .agg #[.int .i64 (canon .f32 fr), .int .i64 (canon .f32 fd), .int .i64 (canon .f32 fs)]) v
    | 15 => Gd ((u0 && u1)) true (v = .agg #[.slice X' fx'.length cx', .slice Y' fy'.length cy', .float .f32 fr', .float .f32 fd', .float .f32 fs']) v
    | 16 => Gd ((u0 && u1)) true (v = .agg #[.int .i64 (canon .f32 fr'), .int .i64 (canon .f32 fd'), .int .i64 (canon .f32 fs')]) v
    | 17 => Gd ((u0 && u1)) true (v = .bool ub) v
    | 18 => v = .bool ((u0 && u1) && ub)
    | 19 => v = .bool ((u0 && u1) && ub)
    | _ => False) (fun _ ww => Below w1.heap.size w1 ww) (fun w w' => Below w.heap.size w w') ?hmono (by kernel_rfl) (by kernel_rfl) ((Below.refl _ _).drew) ?hop ?hend
  case hmono =>
    intro i wa wb v hR hV
    rcases i with _ | _ | _ | _ | _ | _ | _ | _ | _ | _ | _ | _ | _ | _ | _ | _ | _ | _ | _ | _ | i
    · exact hV
    · exact hV
    · exact hV
    · exact hV
    · exact hV
    · exact hV
    · exact hV
    · exact hV
    · exact hV
    · exact hV
    · exact hV
    · exact hV
    · exact hV
    · exact hV
    · exact hV
    · exact hV
    · exact hV
    · exact hV
    · exact hV
    · exact hV
    · exact hV
  case hop =>
    intro q o hq listed act w3 hI hnot hcl hall
    have hB := hI.cls
    obtain ⟨k0, k1, k2, k3, k4⟩ := (K1.out.below hB).five
    obtain ⟨l0, l1, l2, l3, l4⟩ := (K2.out.below hB).five
    rcases q with _ | _ | _ | _ | _ | _ | _ | _ | _ | _ | _ | _ | _ | _ | _ | _ | _ | _ | _ | _ | q
    · simp at hq; subst hq
      have g2 : act.tmps[2]?.getD undef = .pointer (some ⟨w.heap.size, 0, none⟩) := hI.kept 2 (by kernel_rfl)
      clear hI hall hnot hcl
      refine .inl ⟨wanted_none rfl, ?_⟩
      unfold Oper.wp
      go_simp
      all_goals first | first | exact ⟨_, rfl, Below.refl _ _, rfl⟩ | exact ⟨_, rfl, Below.refl _ _, rfl, hB⟩ | exact ⟨Below.refl _ _, hB⟩ | exact Below.refl _ _
    · simp at hq; subst hq
      have g5 : act.tmps[5]?.getD undef = .pointer (some ⟨w.heap.size, 0, none⟩) := hI.has 0 5 rfl (hall ⟨0, .data⟩ (by simp) rfl)
      clear hI hall hnot hcl
      refine .inl ⟨wanted_none rfl, ?_⟩
      unfold Oper.wp
      go_simp
      all_goals first | first | exact ⟨_, rfl, Below.refl _ _, rfl⟩ | exact ⟨_, rfl, Below.refl _ _, rfl, hB⟩ | exact ⟨Below.refl _ _, hB⟩ | exact Below.refl _ _
    · simp at hq; subst hq
      have g3 : act.tmps[3]?.getD undef = .pointer (some ⟨(w.heap.size + 1), 0, none⟩) := hI.kept 3 (by kernel_rfl)
      clear hI hall hnot hcl
      refine .inl ⟨wanted_none rfl, ?_⟩
      unfold Oper.wp
      go_simp
      all_goals first | first | exact ⟨_, rfl, Below.refl _ _, rfl⟩ | exact ⟨_, rfl, Below.refl _ _, rfl, hB⟩ | exact ⟨Below.refl _ _, hB⟩ | exact Below.refl _ _
    · simp at hq; subst hq
      have g7 : act.tmps[7]?.getD undef = .pointer (some ⟨(w.heap.size + 1), 0, none⟩) := hI.has 2 7 rfl (hall ⟨2, .data⟩ (by simp) rfl)
      clear hI hall hnot hcl
      refine .inl ⟨wanted_none rfl, ?_⟩
      unfold Oper.wp
      go_simp
      all_goals first | first | exact ⟨_, rfl, Below.refl _ _, rfl⟩ | exact ⟨_, rfl, Below.refl _ _, rfl, hB⟩ | exact ⟨Below.refl _ _, hB⟩ | exact Below.refl _ _
    · simp at hq; subst hq
      have g6 : act.tmps[6]?.getD undef = .slice X fx.length cx := hI.has 1 6 rfl (hall ⟨1, .data⟩ (by simp) rfl)
      have g8 : act.tmps[8]?.getD undef = .slice X' fx'.length cx' := hI.has 3 8 rfl (hall ⟨3, .data⟩ (by simp) rfl)
      clear hI hall hnot hcl
      refine .inl ⟨wanted_none rfl, ?_⟩
      unfold Oper.wp
      go_simp
      refine (A0 _ (below_of B1.out B1.out.size hB)).out.mono ?_
      rintro e w4 ⟨rfl, n4, rfl⟩
      exact ⟨_, rfl, below_draws (Below.refl _ _) _, rfl, below_draws hB _⟩
    · simp at hq; subst hq
      have g9 : act.tmps[9]?.getD undef = .bool u0 := hI.has 4 9 rfl (hall ⟨4, .data⟩ (by simp) rfl)
      clear hI hall hnot hcl
      refine .inl ⟨wanted_none rfl, ?_⟩
      unfold Oper.wp
      go_simp
      all_goals first | first | exact ⟨_, rfl, Below.refl _ _, rfl⟩ | exact ⟨_, rfl, Below.refl _ _, rfl, hB⟩ | exact ⟨Below.refl _ _, hB⟩ | exact Below.refl _ _
    · simp at hq; subst hq
      have gg : act.tmps[10]?.getD undef = .bool u0 := hI.has 5 10 rfl (hall ⟨5, .guard⟩ (by simp) rfl)
      rcases Bool.eq_false_or_eq_true u0 with hc | hc
      case inr =>
        exact .inr ⟨(wanted_of rfl rfl (gg.trans (by rw [hc]))).trans rfl, Gd.no hc, hB⟩
      have g2 : act.tmps[2]?.getD undef = .pointer (some ⟨w.heap.size, 0, none⟩) := hI.kept 2 (by kernel_rfl)
      clear hI hall hnot hcl
      refine .inl ⟨(wanted_of rfl rfl (gg.trans (by rw [hc]))).trans rfl, ?_⟩
      clear gg
      unfold Oper.wp
      go_simp
      all_goals first | first | exact ⟨_, rfl, Below.refl _ _, Gd.yes (by first | rfl | exact hc) rfl⟩ | exact ⟨_, rfl, Below.refl _ _, Gd.yes (by first | rfl | exact hc) rfl, hB⟩ | exact ⟨Below.refl _ _, hB⟩ | exact Below.refl _ _
    · simp at hq; subst hq
      have gg : act.tmps[10]?.getD undef = .bool u0 := hI.has 5 10 rfl (hall ⟨5, .guard⟩ (by simp) rfl)
      rcases Bool.eq_false_or_eq_true u0 with hc | hc
      case inr =>
        exact .inr ⟨(wanted_of rfl rfl (gg.trans (by rw [hc]))).trans rfl, Gd.no hc, hB⟩
      have g11 : act.tmps[11]?.getD undef = .pointer (some ⟨w.heap.size, 1, none⟩) := Gd.get (hI.has 6 11 rfl (hall ⟨6, .data⟩ (by simp) rfl)) hc
      clear hI hall hnot hcl
      refine .inl ⟨(wanted_of rfl rfl (gg.trans (by rw [hc]))).trans rfl, ?_⟩
      clear gg
      unfold Oper.wp
      go_simp
      all_goals first | first | exact ⟨_, rfl, Below.refl _ _, Gd.yes (by first | rfl | exact hc) rfl⟩ | exact ⟨_, rfl, Below.refl _ _, Gd.yes (by first | rfl | exact hc) rfl, hB⟩ | exact ⟨Below.refl _ _, hB⟩ | exact Below.refl _ _
    · simp at hq; subst hq
      have gg : act.tmps[10]?.getD undef = .bool u0 := hI.has 5 10 rfl (hall ⟨5, .guard⟩ (by simp) rfl)
      rcases Bool.eq_false_or_eq_true u0 with hc | hc
      case inr =>
        exact .inr ⟨(wanted_of rfl rfl (gg.trans (by rw [hc]))).trans rfl, Gd.no hc, hB⟩
      have g3 : act.tmps[3]?.getD undef = .pointer (some ⟨(w.heap.size + 1), 0, none⟩) := hI.kept 3 (by kernel_rfl)
      clear hI hall hnot hcl
      refine .inl ⟨(wanted_of rfl rfl (gg.trans (by rw [hc]))).trans rfl, ?_⟩
      clear gg
      unfold Oper.wp
      go_simp
      all_goals first | first | exact ⟨_, rfl, Below.refl _ _, Gd.yes (by first | rfl | exact hc) rfl⟩ | exact ⟨_, rfl, Below.refl _ _, Gd.yes (by first | rfl | exact hc) rfl, hB⟩ | exact ⟨Below.refl _ _, hB⟩ | exact Below.refl _ _
    · simp at hq; subst hq
      have gg : act.tmps[10]?.getD undef = .bool u0 := hI.has 5 10 rfl (hall ⟨5, .guard⟩ (by simp) rfl)
      rcases Bool.eq_false_or_eq_true u0 with hc | hc
      case inr =>
        exact .inr ⟨(wanted_of rfl rfl (gg.trans (by rw [hc]))).trans rfl, Gd.no hc, hB⟩
      have g13 : act.tmps[13]?.getD undef = .pointer (some ⟨(w.heap.size + 1), 1, none⟩) := Gd.get (hI.has 8 13 rfl (hall ⟨8, .data⟩ (by simp) rfl)) hc
      clear hI hall hnot hcl
      refine .inl ⟨(wanted_of rfl rfl (gg.trans (by rw [hc]))).trans rfl, ?_⟩
      clear gg
      unfold Oper.wp
      go_simp
      all_goals first | first | exact ⟨_, rfl, Below.refl _ _, Gd.yes (by first | rfl | exact hc) rfl⟩ | exact ⟨_, rfl, Below.refl _ _, Gd.yes (by first | rfl | exact hc) rfl, hB⟩ | exact ⟨Below.refl _ _, hB⟩ | exact Below.refl _ _
    · simp at hq; subst hq
      have gg : act.tmps[10]?.getD undef = .bool u0 := hI.has 5 10 rfl (hall ⟨5, .guard⟩ (by simp) rfl)
      rcases Bool.eq_false_or_eq_true u0 with hc | hc
      case inr =>
        exact .inr ⟨(wanted_of rfl rfl (gg.trans (by rw [hc]))).trans rfl, Gd.no hc, hB⟩
      have g12 : act.tmps[12]?.getD undef = .slice Y fy.length cy := Gd.get (hI.has 7 12 rfl (hall ⟨7, .data⟩ (by simp) rfl)) hc
      have g14 : act.tmps[14]?.getD undef = .slice Y' fy'.length cy' := Gd.get (hI.has 9 14 rfl (hall ⟨9, .data⟩ (by simp) rfl)) hc
      clear hI hall hnot hcl
      refine .inl ⟨(wanted_of rfl rfl (gg.trans (by rw [hc]))).trans rfl, ?_⟩
      clear gg
      unfold Oper.wp
      go_simp
      refine (A1 _ (below_of B1.out B1.out.size hB)).out.mono ?_
      rintro e w4 ⟨rfl, n4, rfl⟩
      exact ⟨_, rfl, below_draws (Below.refl _ _) _, Gd.yes (by first | rfl | exact hc) rfl, below_draws hB _⟩
    · simp at hq; subst hq
      have g10 : act.tmps[10]?.getD undef = .bool u0 := hI.has 5 10 rfl (hall ⟨5, .data⟩ (by simp) rfl)
      have G15 := hI.has 10 15 rfl (hall ⟨10, .data⟩ (by simp) rfl)
      clear hI hall hnot hcl
      refine .inl ⟨wanted_none rfl, ?_⟩
      unfold Oper.wp
      rcases Bool.eq_false_or_eq_true u0 with hc | hc
      · rw [hc] at g10
        have g15 := Gd.get G15 hc
        clear G15
        go_simp
        all_goals first | exact ⟨_, rfl, Below.refl _ _, by first | rfl | (rw [hc]; rfl)⟩ | exact ⟨_, rfl, Below.refl _ _, by first | rfl | (rw [hc]; rfl), hB⟩ | exact Below.refl _ _ | exact ⟨Below.refl _ _, by first | rfl | (rw [hc]; rfl), hB⟩ | exact ⟨Below.refl _ _, hB⟩
      · rw [hc] at g10
        have g15 := Gd.un G15 hc
        clear G15
        go_simp
        all_goals first | exact ⟨_, rfl, Below.refl _ _, by first | rfl | (rw [hc]; rfl)⟩ | exact ⟨_, rfl, Below.refl _ _, by first | rfl | (rw [hc]; rfl), hB⟩ | exact Below.refl _ _ | exact ⟨Below.refl _ _, by first | rfl | (rw [hc]; rfl), hB⟩ | exact ⟨Below.refl _ _, hB⟩
    · simp at hq; subst hq
      have g16 : act.tmps[16]?.getD undef = .bool (u0 && u1) := hI.has 11 16 rfl (hall ⟨11, .data⟩ (by simp) rfl)
      clear hI hall hnot hcl
      refine .inl ⟨wanted_none rfl, ?_⟩
      unfold Oper.wp
      go_simp
      all_goals first | first | exact ⟨_, rfl, Below.refl _ _, rfl⟩ | exact ⟨_, rfl, Below.refl _ _, rfl, hB⟩ | exact ⟨Below.refl _ _, hB⟩ | exact Below.refl _ _
    · simp at hq; subst hq
      have gg : act.tmps[17]?.getD undef = .bool ((u0 && u1)) := hI.has 12 17 rfl (hall ⟨12, .guard⟩ (by simp) rfl)
      rcases Bool.eq_false_or_eq_true ((u0 && u1)) with hc | hc
      case inr =>
        exact .inr ⟨(wanted_of rfl rfl (gg.trans (by rw [hc]))).trans rfl, Gd.no hc, hB⟩
      have g2 : act.tmps[2]?.getD undef = .pointer (some ⟨w.heap.size, 0, none⟩) := hI.kept 2 (by kernel_rfl)
      clear hI hall hnot hcl
      refine .inl ⟨(wanted_of rfl rfl (gg.trans (by rw [hc]))).trans rfl, ?_⟩
      clear gg
      unfold Oper.wp
      go_simp
      all_goals first | first | exact ⟨_, rfl, Below.refl _ _, Gd.yes (by first | rfl | exact hc) rfl⟩ | exact ⟨_, rfl, Below.refl _ _, Gd.yes (by first | rfl | exact hc) rfl, hB⟩ | exact ⟨Below.refl _ _, hB⟩ | exact Below.refl _ _
    · simp at hq; subst hq
      have gg : act.tmps[17]?.getD undef = .bool ((u0 && u1)) := hI.has 12 17 rfl (hall ⟨12, .guard⟩ (by simp) rfl)
      rcases Bool.eq_false_or_eq_true ((u0 && u1)) with hc | hc
      case inr =>
        exact .inr ⟨(wanted_of rfl rfl (gg.trans (by rw [hc]))).trans rfl, Gd.no hc, hB⟩
      have g18 : act.tmps[18]?.getD undef = .agg #[.slice X fx.length cx, .slice Y fy.length cy, .float .f32 fr, .float .f32 fd, .float .f32 fs] := Gd.get (hI.has 13 18 rfl (hall ⟨13, .data⟩ (by simp) rfl)) hc
      clear hI hall hnot hcl
      refine .inl ⟨(wanted_of rfl rfl (gg.trans (by rw [hc]))).trans rfl, ?_⟩
      clear gg
      unfold Oper.wp
      go_simp
      refine (QB0 _).out.mono ?_
      rintro e w4 ⟨rfl, b4⟩
      exact ⟨_, rfl, b4, Gd.yes (by first | rfl | exact hc) rfl, below_of hB hB.size b4⟩
    · simp at hq; subst hq
      have gg : act.tmps[17]?.getD undef = .bool ((u0 && u1)) := hI.has 12 17 rfl (hall ⟨12, .guard⟩ (by simp) rfl)
      rcases Bool.eq_false_or_eq_true ((u0 && u1)) with hc | hc
      case inr =>
        exact .inr ⟨(wanted_of rfl rfl (gg.trans (by rw [hc]))).trans rfl, Gd.no hc, hB⟩
      have g3 : act.tmps[3]?.getD undef = .pointer (some ⟨(w.heap.size + 1), 0, none⟩) := hI.kept 3 (by kernel_rfl)
      clear hI hall hnot hcl
      refine .inl ⟨(wanted_of rfl rfl (gg.trans (by rw [hc]))).trans rfl, ?_⟩
      clear gg
      unfold Oper.wp
      go_simp
      all_goals first | first | exact ⟨_, rfl, Below.refl _ _, Gd.yes (by first | rfl | exact hc) rfl⟩ | exact ⟨_, rfl, Below.refl _ _, Gd.yes (by first | rfl | exact hc) rfl, hB⟩ | exact ⟨Below.refl _ _, hB⟩ | exact Below.refl _ _
    · simp at hq; subst hq
      have gg : act.tmps[17]?.getD undef = .bool ((u0 && u1)) := hI.has 12 17 rfl (hall ⟨12, .guard⟩ (by simp) rfl)
      rcases Bool.eq_false_or_eq_true ((u0 && u1)) with hc | hc
      case inr =>
        exact .inr ⟨(wanted_of rfl rfl (gg.trans (by rw [hc]))).trans rfl, Gd.no hc, hB⟩
      have g20 : act.tmps[20]?.getD undef = .agg #[.slice X' fx'.length cx', .slice Y' fy'.length cy', .float .f32 fr', .float .f32 fd', .float .f32 fs'] := Gd.get (hI.has 15 20 rfl (hall ⟨15, .data⟩ (by simp) rfl)) hc
      clear hI hall hnot hcl
      refine .inl ⟨(wanted_of rfl rfl (gg.trans (by rw [hc]))).trans rfl, ?_⟩
      clear gg
      unfold Oper.wp
      go_simp
      refine (QB1 _).out.mono ?_
      rintro e w4 ⟨rfl, b4⟩
      exact ⟨_, rfl, b4, Gd.yes (by first | rfl | exact hc) rfl, below_of hB hB.size b4⟩
    · simp at hq; subst hq
      have gg : act.tmps[17]?.getD undef = .bool ((u0 && u1)) := hI.has 12 17 rfl (hall ⟨12, .guard⟩ (by simp) rfl)
      rcases Bool.eq_false_or_eq_true ((u0 && u1)) with hc | hc
      case inr =>
        exact .inr ⟨(wanted_of rfl rfl (gg.trans (by rw [hc]))).trans rfl, Gd.no hc, hB⟩
      have g19 : act.tmps[19]?.getD undef = .agg #[.int .i64 (canon .f32 fr), .int .i64 (canon .f32 fd), .int .i64 (canon .f32 fs)] := Gd.get (hI.has 14 19 rfl (hall ⟨14, .data⟩ (by simp) rfl)) hc
      have g21 : act.tmps[21]?.getD undef = .agg #[.int .i64 (canon .f32 fr'), .int .i64 (canon .f32 fd'), .int .i64 (canon .f32 fs')] := Gd.get (hI.has 16 21 rfl (hall ⟨16, .data⟩ (by simp) rfl)) hc
      clear hI hall hnot hcl
      refine .inl ⟨(wanted_of rfl rfl (gg.trans (by rw [hc]))).trans rfl, ?_⟩
      clear gg
      unfold Oper.wp
      go_simp
      rw [HU.out]
      first | exact ⟨_, rfl, Below.refl _ _, Gd.yes (by first | rfl | exact hc) rfl⟩ | exact ⟨_, rfl, Below.refl _ _, Gd.yes (by first | rfl | exact hc) rfl, hB⟩
    · simp at hq; subst hq
      have g17 : act.tmps[17]?.getD undef = .bool (u0 && u1) := hI.has 12 17 rfl (hall ⟨12, .data⟩ (by simp) rfl)
      have G22 := hI.has 17 22 rfl (hall ⟨17, .data⟩ (by simp) rfl)
      clear hI hall hnot hcl
      refine .inl ⟨wanted_none rfl, ?_⟩
      unfold Oper.wp
      rcases Bool.eq_false_or_eq_true ((u0 && u1)) with hc | hc
      · rw [hc] at g17
        have g22 := Gd.get G22 hc
        clear G22
        go_simp
        all_goals first | exact ⟨_, rfl, Below.refl _ _, by first | rfl | (rw [hc]; rfl)⟩ | exact ⟨_, rfl, Below.refl _ _, by first | rfl | (rw [hc]; rfl), hB⟩ | exact Below.refl _ _ | exact ⟨Below.refl _ _, by first | rfl | (rw [hc]; rfl), hB⟩ | exact ⟨Below.refl _ _, hB⟩
      · rw [hc] at g17
        have g22 := Gd.un G22 hc
        clear G22
        go_simp
        all_goals first | exact ⟨_, rfl, Below.refl _ _, by first | rfl | (rw [hc]; rfl)⟩ | exact ⟨_, rfl, Below.refl _ _, by first | rfl | (rw [hc]; rfl), hB⟩ | exact Below.refl _ _ | exact ⟨Below.refl _ _, by first | rfl | (rw [hc]; rfl), hB⟩ | exact ⟨Below.refl _ _, hB⟩
    · simp at hq; subst hq
      have g23 : act.tmps[23]?.getD undef = .bool ((u0 && u1) && ub) := hI.has 18 23 rfl (hall ⟨18, .data⟩ (by simp) rfl)
      clear hI hall hnot hcl
      refine .inl ⟨wanted_none rfl, ?_⟩
      unfold Oper.wp
      go_simp
      all_goals first | first | exact ⟨_, rfl, Below.refl _ _, rfl⟩ | exact ⟨_, rfl, Below.refl _ _, rfl, hB⟩ | exact ⟨Below.refl _ _, hB⟩ | exact Below.refl _ _
    · simp at hq
  case hend =>
    intro listed act w3 hI hall
    have hB := hI.cls
    obtain ⟨k0, k1, k2, k3, k4⟩ := (K1.out.below hB).five
    obtain ⟨l0, l1, l2, l3, l4⟩ := (K2.out.below hB).five
    have g4 : act.tmps[4]?.getD undef = .bool ((u0 && u1) && ub) := hI.has 19 4 rfl (hall 19 (by decide))
    have hd := hI.defers
    have hB := hI.cls
    clear hI hall
    go_wp2
    refine bodyPost_ret (v := .bool ((u0 && u1) && ub)) (by simp [results, Try.results144, g4, go_sem]) (by first | rfl | exact hd) ⟨?_, below_of B1.out B1.out.size hB⟩
    rw [HE.out]
    simp only [Bool.and_assoc]
end Go.Proofs.Ytiiiigldpbomkaa

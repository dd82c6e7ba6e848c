/- What the grid takes, what is given, and what is left: both sides. No statement is proved here. -/
import Derived.Test.YtmcfnkfcklcpnaaDrv
import Derived.Test.YtmcfnkfcklcpnaaNotFin
import Derived.Test.YtmcfnkfcklcpnaaInv3
namespace Go.Proofs.Ytmcfnkfcklcpnaa
open Go Go.RowKit
def gridF (p2 p4 sp : Nat) : Nat := fop .quo .f32 (fop .mul .f32 (canon .f32 p2) (canon .f32 sp)) (fop .mul .f32 (canon .f32 p4) (canon .f32 p4))
def gridB (p2 sp : Nat) : Nat := fop .quo .f32 (canon .f32 p2) (canon .f32 sp)
/-- what the grid takes -/
def gridV (p2 p4 : Nat) (st : Int) (sp : Nat) : Nat := bif decide (st = 2) then (bif leq32 sp p4 then gridF p2 p4 sp else gridB p2 sp) else 0
def gridO (v : Bool) (g : Nat) : Bool := v && fin .f32 g
def gridR (v : Bool) (g : Nat) : Nat := bif v then onlyN g else 0
def dpwV (g sp : Nat) : Nat := fop .mul .f32 g (canon .f32 sp)
def dpwO (v : Bool) (g sp : Nat) : Bool := v && (fin .f32 g && fin .f32 (dpwV g sp))
def dpwR (v : Bool) (g sp : Nat) : Nat := bif v && fin .f32 g then onlyN (dpwV g sp) else 0
def netV (p1 g sp pi pu : Nat) : Nat := fop .sub .f32 (fop .sub .f32 (fop .mul .f32 (canon .f32 pu) (fop .sub .f32 (canon .f32 1065353216) (canon .f32 pi))) g) (fop .mul .f32 (canon .f32 p1) (canon .f32 sp))
def netO (v : Bool) (p1 g sp pi pu : Nat) : Bool := v && fin .f32 (netV p1 g sp pi pu)
def netR (v : Bool) (p1 g sp pi pu : Nat) : Nat := bif v then onlyN (netV p1 g sp pi pu) else 0
theorem onlyN_fin {x : Nat} (h : fin .f32 x = true) : onlyN x = x := by unfold onlyN; rw [h]; rfl
theorem onlyN_not {x : Nat} (h : fin .f32 x = false) : onlyN x = 0 := by unfold onlyN; rw [h]; rfl
theorem net_grid {p1 g sp pi pu : Nat} (h : fin .f32 g = false) : fin .f32 (netV p1 g sp pi pu) = false := subL_not_fin (subR_not_fin h)
theorem net_pull {p1 g sp pi pu : Nat} (h : fin .f32 pu = false) : fin .f32 (netV p1 g sp pi pu) = false := subL_not_fin (subL_not_fin (mulL_not_fin (by rw [fin_canon]; exact h)))
theorem s_l03NumberC (x V : Nat) (w : World) (h : canon .f32 x = V) :
    Calls Try.prog 64 #[.float .f32 x] w fun e w' => ∃ r n, e = .returned (.tuple #[.float .f32 r, .bool (fin .f32 V)]) ∧ canon .f32 r = onlyN V ∧ w' = w.drewN n := by
  have hf : fin .f32 x = fin .f32 V := by rw [← h, fin_canon]
  cases hv : fin .f32 V
  all_goals
    go_enter Try.func64, Try.ntmps64
    go_wp2_with fail
    refine (s_l01Finite _ _).mono ?_
    rintro e w' ⟨n, rfl, rfl⟩
    rw [hf, hv]
    go_wp2
    go_ret2
  · exact ⟨0, n, rfl, by rw [onlyN_not hv]; exact canon_zero, rfl⟩
  · exact ⟨x, n, rfl, by rw [onlyN_fin hv, h], rfl⟩
set_option maxHeartbeats 8000000 in
set_option maxRecDepth 100000 in
theorem s_l05Grid (p0 p1 p2 p3 p4 p5 p6 p7 : Nat) (st : Int) (sp pi en : Nat) (B : Nat) (w : World) (hk : C12 w B p0 p1 p2 p3 p4 p5 p6 p7 st sp pi en) :
    Calls Try.prog 65 #[.pointer (some ⟨B, 0, none⟩)] w fun e w' => ∃ r n, e = .returned (.float .f32 r) ∧ canon .f32 r = gridV p2 p4 st sp ∧ w' = w.drewN n := by
  obtain ⟨⟨k0, k1, k2, k3, k4, k5, k6, k7⟩, k8, k9, k10, k11⟩ := hk
  have hst : ∀ m, ∃ nn, { (w.drewN m) with drawn := (w.drewN m).drawn + 1 } = w.drewN nn := fun m => ⟨m + 1, rfl⟩
  have hdd : ∀ nn j, ∃ mm, (w.drewN nn).drewN j = w.drewN mm := fun nn j => ⟨nn + j, World.drewN_drewN ..⟩
  by_cases hs : st = 2
  · subst hs
    cases ql : (FloatKind.f32.format.order sp p4 == some .lt || FloatKind.f32.format.order sp p4 == some .eq)
    · go_enter Try.func65, Try.ntmps65
      go_wp2_with fail
      go_quiet (fail)
      go_wp2_with fail
      refine wp_region_inv3 (fun q0 v => match q0 with
        | 0 => v = .pointer (some ⟨B, 0, none⟩)
        | 1 => v = .pointer (some ⟨B, 0, none⟩)
        | 2 => v = .pointer (some ⟨B, 2, none⟩)
        | 3 => v = .float .f32 p2
        | 4 => v = .pointer (some ⟨B, 0, none⟩)
        | 5 => v = .pointer (some ⟨B, 0, none⟩)
        | 6 => v = .pointer (some ⟨B, 9, none⟩)
        | 7 => v = .float .f32 sp
        | 8 => ∃ r, v = .float .f32 r ∧ canon .f32 r = fop .quo .f32 (canon .f32 p2) (canon .f32 sp)
        | 9 => ∃ r, v = .float .f32 r ∧ canon .f32 r = fop .quo .f32 (canon .f32 p2) (canon .f32 sp)
        | _ => False) (fun _ ww => ∃ nn, ww = w.drewN nn) (by kernel_rfl) (by kernel_rfl) (hst _) ?hop ?hend
      case hop =>
        intro q o hq listed act w3 hI hnot hcl hall
        obtain ⟨nn, rfl⟩ := hI.cls
        rcases q with _ | _ | _ | _ | _ | _ | _ | _ | _ | _ | q
        · simp at hq; subst hq
          have g3 : act.tmps[3]?.getD undef = .pointer (some ⟨B, 0, none⟩) := hI.kept 3 (by kernel_rfl)
          clear hI hall hnot hcl
          refine .inl ⟨wanted_none rfl, ?_⟩
          unfold Oper.wp
          go_simp
          all_goals exact ⟨_, rfl, rfl, ⟨_, rfl⟩⟩
        · simp at hq; subst hq
          have g40 : act.tmps[40]?.getD undef = .pointer (some ⟨B, 0, none⟩) := hI.has 0 40 rfl (hall ⟨0, .data⟩ (by simp) rfl)
          clear hI hall hnot hcl
          refine .inl ⟨wanted_none rfl, ?_⟩
          unfold Oper.wp
          go_simp
          all_goals exact ⟨_, rfl, rfl, ⟨_, rfl⟩⟩
        · simp at hq; subst hq
          have g41 : act.tmps[41]?.getD undef = .pointer (some ⟨B, 0, none⟩) := hI.has 1 41 rfl (hall ⟨1, .data⟩ (by simp) rfl)
          clear hI hall hnot hcl
          refine .inl ⟨wanted_none rfl, ?_⟩
          unfold Oper.wp
          go_simp
          all_goals exact ⟨_, rfl, rfl, ⟨_, rfl⟩⟩
        · simp at hq; subst hq
          have g42 : act.tmps[42]?.getD undef = .pointer (some ⟨B, 2, none⟩) := hI.has 2 42 rfl (hall ⟨2, .data⟩ (by simp) rfl)
          clear hI hall hnot hcl
          refine .inl ⟨wanted_none rfl, ?_⟩
          unfold Oper.wp
          go_simp
          all_goals exact ⟨_, rfl, rfl, ⟨_, rfl⟩⟩
        · simp at hq; subst hq
          have g0 : act.tmps[0]?.getD undef = .pointer (some ⟨B, 0, none⟩) := hI.kept 0 (by kernel_rfl)
          clear hI hall hnot hcl
          refine .inl ⟨wanted_none rfl, ?_⟩
          unfold Oper.wp
          go_simp
          all_goals exact ⟨_, rfl, rfl, ⟨_, rfl⟩⟩
        · simp at hq; subst hq
          have g44 : act.tmps[44]?.getD undef = .pointer (some ⟨B, 0, none⟩) := hI.has 4 44 rfl (hall ⟨4, .data⟩ (by simp) rfl)
          clear hI hall hnot hcl
          refine .inl ⟨wanted_none rfl, ?_⟩
          unfold Oper.wp
          go_simp
          all_goals exact ⟨_, rfl, rfl, ⟨_, rfl⟩⟩
        · simp at hq; subst hq
          have g45 : act.tmps[45]?.getD undef = .pointer (some ⟨B, 0, none⟩) := hI.has 5 45 rfl (hall ⟨5, .data⟩ (by simp) rfl)
          clear hI hall hnot hcl
          refine .inl ⟨wanted_none rfl, ?_⟩
          unfold Oper.wp
          go_simp
          all_goals exact ⟨_, rfl, rfl, ⟨_, rfl⟩⟩
        · simp at hq; subst hq
          have g46 : act.tmps[46]?.getD undef = .pointer (some ⟨B, 9, none⟩) := hI.has 6 46 rfl (hall ⟨6, .data⟩ (by simp) rfl)
          clear hI hall hnot hcl
          refine .inl ⟨wanted_none rfl, ?_⟩
          unfold Oper.wp
          go_simp
          all_goals exact ⟨_, rfl, rfl, ⟨_, rfl⟩⟩
        · simp at hq; subst hq
          have g43 : act.tmps[43]?.getD undef = .float .f32 p2 := hI.has 3 43 rfl (hall ⟨3, .data⟩ (by simp) rfl)
          have g47 : act.tmps[47]?.getD undef = .float .f32 sp := hI.has 7 47 rfl (hall ⟨7, .data⟩ (by simp) rfl)
          clear hI hall hnot hcl
          refine .inl ⟨wanted_none rfl, ?_⟩
          unfold Oper.wp
          go_simp
          exact ⟨_, rfl, ⟨_, rfl, canonF rfl rfl⟩, by first | exact ⟨_, rfl⟩ | exact hdd _ _⟩
        · simp at hq; subst hq
          obtain ⟨r8, g48, h8a⟩ := hI.has 8 48 rfl (hall ⟨8, .data⟩ (by simp) rfl)
          clear hI hall hnot hcl
          refine .inl ⟨wanted_none rfl, ?_⟩
          unfold Oper.wp
          go_simp
          exact ⟨_, rfl, ⟨_, rfl, h8a⟩, ⟨_, rfl⟩⟩
        · simp at hq
      case hend =>
        intro listed act w3 hI hall
        obtain ⟨nn, rfl⟩ := hI.cls
        obtain ⟨rq, g2, hrq⟩ := hI.has 9 2 rfl (hall 9 (by decide))
        have hd := hI.defers
        clear hI hall
        go_wp2
        refine bodyPost_ret (v := .float .f32 rq) (by simp [results, Try.results65, g2, go_sem]) (by first | rfl | exact hd) ?_
        have hq : canon .f32 rq = gridV p2 p4 2 sp := by
          rw [hrq]
          unfold gridV leq32
          rw [ql]
          rfl
        first | exact ⟨rq, nn, rfl, hq, rfl⟩ | exact ⟨rq, rfl, hq, nn, rfl⟩
    · go_enter Try.func65, Try.ntmps65
      go_wp2_with fail
      go_quiet (fail)
      go_wp2_with fail
      refine wp_region_inv3 (fun q0 v => match q0 with
        | 0 => v = .pointer (some ⟨B, 0, none⟩)
        | 1 => v = .pointer (some ⟨B, 0, none⟩)
        | 2 => v = .pointer (some ⟨B, 2, none⟩)
        | 3 => v = .float .f32 p2
        | 4 => v = .pointer (some ⟨B, 0, none⟩)
        | 5 => v = .pointer (some ⟨B, 0, none⟩)
        | 6 => v = .pointer (some ⟨B, 9, none⟩)
        | 7 => v = .float .f32 sp
        | 8 => ∃ r, v = .float .f32 r ∧ canon .f32 r = fop .mul .f32 (canon .f32 p2) (canon .f32 sp)
        | 9 => v = .pointer (some ⟨B, 0, none⟩)
        | 10 => v = .pointer (some ⟨B, 0, none⟩)
        | 11 => v = .pointer (some ⟨B, 4, none⟩)
        | 12 => v = .float .f32 p4
        | 13 => v = .pointer (some ⟨B, 0, none⟩)
        | 14 => v = .pointer (some ⟨B, 0, none⟩)
        | 15 => v = .pointer (some ⟨B, 4, none⟩)
        | 16 => v = .float .f32 p4
        | 17 => ∃ r, v = .float .f32 r ∧ canon .f32 r = fop .mul .f32 (canon .f32 p4) (canon .f32 p4)
        | 18 => ∃ r, v = .float .f32 r ∧ canon .f32 r = fop .quo .f32 (fop .mul .f32 (canon .f32 p2) (canon .f32 sp)) (fop .mul .f32 (canon .f32 p4) (canon .f32 p4))
        | 19 => ∃ r, v = .float .f32 r ∧ canon .f32 r = fop .quo .f32 (fop .mul .f32 (canon .f32 p2) (canon .f32 sp)) (fop .mul .f32 (canon .f32 p4) (canon .f32 p4))
        | _ => False) (fun _ ww => ∃ nn, ww = w.drewN nn) (by kernel_rfl) (by kernel_rfl) (hst _) ?hop ?hend
      case hop =>
        intro q o hq listed act w3 hI hnot hcl hall
        obtain ⟨nn, rfl⟩ := hI.cls
        rcases q with _ | _ | _ | _ | _ | _ | _ | _ | _ | _ | _ | _ | _ | _ | _ | _ | _ | _ | _ | _ | q
        · simp at hq; subst hq
          have g3 : act.tmps[3]?.getD undef = .pointer (some ⟨B, 0, none⟩) := hI.kept 3 (by kernel_rfl)
          clear hI hall hnot hcl
          refine .inl ⟨wanted_none rfl, ?_⟩
          unfold Oper.wp
          go_simp
          all_goals exact ⟨_, rfl, rfl, ⟨_, rfl⟩⟩
        · simp at hq; subst hq
          have g21 : act.tmps[21]?.getD undef = .pointer (some ⟨B, 0, none⟩) := hI.has 0 21 rfl (hall ⟨0, .data⟩ (by simp) rfl)
          clear hI hall hnot hcl
          refine .inl ⟨wanted_none rfl, ?_⟩
          unfold Oper.wp
          go_simp
          all_goals exact ⟨_, rfl, rfl, ⟨_, rfl⟩⟩
        · simp at hq; subst hq
          have g22 : act.tmps[22]?.getD undef = .pointer (some ⟨B, 0, none⟩) := hI.has 1 22 rfl (hall ⟨1, .data⟩ (by simp) rfl)
          clear hI hall hnot hcl
          refine .inl ⟨wanted_none rfl, ?_⟩
          unfold Oper.wp
          go_simp
          all_goals exact ⟨_, rfl, rfl, ⟨_, rfl⟩⟩
        · simp at hq; subst hq
          have g23 : act.tmps[23]?.getD undef = .pointer (some ⟨B, 2, none⟩) := hI.has 2 23 rfl (hall ⟨2, .data⟩ (by simp) rfl)
          clear hI hall hnot hcl
          refine .inl ⟨wanted_none rfl, ?_⟩
          unfold Oper.wp
          go_simp
          all_goals exact ⟨_, rfl, rfl, ⟨_, rfl⟩⟩
        · simp at hq; subst hq
          have g0 : act.tmps[0]?.getD undef = .pointer (some ⟨B, 0, none⟩) := hI.kept 0 (by kernel_rfl)
          clear hI hall hnot hcl
          refine .inl ⟨wanted_none rfl, ?_⟩
          unfold Oper.wp
          go_simp
          all_goals exact ⟨_, rfl, rfl, ⟨_, rfl⟩⟩
        · simp at hq; subst hq
          have g25 : act.tmps[25]?.getD undef = .pointer (some ⟨B, 0, none⟩) := hI.has 4 25 rfl (hall ⟨4, .data⟩ (by simp) rfl)
          clear hI hall hnot hcl
          refine .inl ⟨wanted_none rfl, ?_⟩
          unfold Oper.wp
          go_simp
          all_goals exact ⟨_, rfl, rfl, ⟨_, rfl⟩⟩
        · simp at hq; subst hq
          have g26 : act.tmps[26]?.getD undef = .pointer (some ⟨B, 0, none⟩) := hI.has 5 26 rfl (hall ⟨5, .data⟩ (by simp) rfl)
          clear hI hall hnot hcl
          refine .inl ⟨wanted_none rfl, ?_⟩
          unfold Oper.wp
          go_simp
          all_goals exact ⟨_, rfl, rfl, ⟨_, rfl⟩⟩
        · simp at hq; subst hq
          have g27 : act.tmps[27]?.getD undef = .pointer (some ⟨B, 9, none⟩) := hI.has 6 27 rfl (hall ⟨6, .data⟩ (by simp) rfl)
          clear hI hall hnot hcl
          refine .inl ⟨wanted_none rfl, ?_⟩
          unfold Oper.wp
          go_simp
          all_goals exact ⟨_, rfl, rfl, ⟨_, rfl⟩⟩
        · simp at hq; subst hq
          have g24 : act.tmps[24]?.getD undef = .float .f32 p2 := hI.has 3 24 rfl (hall ⟨3, .data⟩ (by simp) rfl)
          have g28 : act.tmps[28]?.getD undef = .float .f32 sp := hI.has 7 28 rfl (hall ⟨7, .data⟩ (by simp) rfl)
          clear hI hall hnot hcl
          refine .inl ⟨wanted_none rfl, ?_⟩
          unfold Oper.wp
          go_simp
          exact ⟨_, rfl, ⟨_, rfl, canonF rfl rfl⟩, by first | exact ⟨_, rfl⟩ | exact hdd _ _⟩
        · simp at hq; subst hq
          have g3 : act.tmps[3]?.getD undef = .pointer (some ⟨B, 0, none⟩) := hI.kept 3 (by kernel_rfl)
          clear hI hall hnot hcl
          refine .inl ⟨wanted_none rfl, ?_⟩
          unfold Oper.wp
          go_simp
          all_goals exact ⟨_, rfl, rfl, ⟨_, rfl⟩⟩
        · simp at hq; subst hq
          have g30 : act.tmps[30]?.getD undef = .pointer (some ⟨B, 0, none⟩) := hI.has 9 30 rfl (hall ⟨9, .data⟩ (by simp) rfl)
          clear hI hall hnot hcl
          refine .inl ⟨wanted_none rfl, ?_⟩
          unfold Oper.wp
          go_simp
          all_goals exact ⟨_, rfl, rfl, ⟨_, rfl⟩⟩
        · simp at hq; subst hq
          have g31 : act.tmps[31]?.getD undef = .pointer (some ⟨B, 0, none⟩) := hI.has 10 31 rfl (hall ⟨10, .data⟩ (by simp) rfl)
          clear hI hall hnot hcl
          refine .inl ⟨wanted_none rfl, ?_⟩
          unfold Oper.wp
          go_simp
          all_goals exact ⟨_, rfl, rfl, ⟨_, rfl⟩⟩
        · simp at hq; subst hq
          have g32 : act.tmps[32]?.getD undef = .pointer (some ⟨B, 4, none⟩) := hI.has 11 32 rfl (hall ⟨11, .data⟩ (by simp) rfl)
          clear hI hall hnot hcl
          refine .inl ⟨wanted_none rfl, ?_⟩
          unfold Oper.wp
          go_simp
          all_goals exact ⟨_, rfl, rfl, ⟨_, rfl⟩⟩
        · simp at hq; subst hq
          have g3 : act.tmps[3]?.getD undef = .pointer (some ⟨B, 0, none⟩) := hI.kept 3 (by kernel_rfl)
          clear hI hall hnot hcl
          refine .inl ⟨wanted_none rfl, ?_⟩
          unfold Oper.wp
          go_simp
          all_goals exact ⟨_, rfl, rfl, ⟨_, rfl⟩⟩
        · simp at hq; subst hq
          have g34 : act.tmps[34]?.getD undef = .pointer (some ⟨B, 0, none⟩) := hI.has 13 34 rfl (hall ⟨13, .data⟩ (by simp) rfl)
          clear hI hall hnot hcl
          refine .inl ⟨wanted_none rfl, ?_⟩
          unfold Oper.wp
          go_simp
          all_goals exact ⟨_, rfl, rfl, ⟨_, rfl⟩⟩
        · simp at hq; subst hq
          have g35 : act.tmps[35]?.getD undef = .pointer (some ⟨B, 0, none⟩) := hI.has 14 35 rfl (hall ⟨14, .data⟩ (by simp) rfl)
          clear hI hall hnot hcl
          refine .inl ⟨wanted_none rfl, ?_⟩
          unfold Oper.wp
          go_simp
          all_goals exact ⟨_, rfl, rfl, ⟨_, rfl⟩⟩
        · simp at hq; subst hq
          have g36 : act.tmps[36]?.getD undef = .pointer (some ⟨B, 4, none⟩) := hI.has 15 36 rfl (hall ⟨15, .data⟩ (by simp) rfl)
          clear hI hall hnot hcl
          refine .inl ⟨wanted_none rfl, ?_⟩
          unfold Oper.wp
          go_simp
          all_goals exact ⟨_, rfl, rfl, ⟨_, rfl⟩⟩
        · simp at hq; subst hq
          have g33 : act.tmps[33]?.getD undef = .float .f32 p4 := hI.has 12 33 rfl (hall ⟨12, .data⟩ (by simp) rfl)
          have g37 : act.tmps[37]?.getD undef = .float .f32 p4 := hI.has 16 37 rfl (hall ⟨16, .data⟩ (by simp) rfl)
          clear hI hall hnot hcl
          refine .inl ⟨wanted_none rfl, ?_⟩
          unfold Oper.wp
          go_simp
          exact ⟨_, rfl, ⟨_, rfl, canonF rfl rfl⟩, by first | exact ⟨_, rfl⟩ | exact hdd _ _⟩
        · simp at hq; subst hq
          obtain ⟨r8, g29, h8a⟩ := hI.has 8 29 rfl (hall ⟨8, .data⟩ (by simp) rfl)
          obtain ⟨r17, g38, h17a⟩ := hI.has 17 38 rfl (hall ⟨17, .data⟩ (by simp) rfl)
          clear hI hall hnot hcl
          refine .inl ⟨wanted_none rfl, ?_⟩
          unfold Oper.wp
          go_simp
          exact ⟨_, rfl, ⟨_, rfl, canonF h8a h17a⟩, by first | exact ⟨_, rfl⟩ | exact hdd _ _⟩
        · simp at hq; subst hq
          obtain ⟨r18, g39, h18a⟩ := hI.has 18 39 rfl (hall ⟨18, .data⟩ (by simp) rfl)
          clear hI hall hnot hcl
          refine .inl ⟨wanted_none rfl, ?_⟩
          unfold Oper.wp
          go_simp
          exact ⟨_, rfl, ⟨_, rfl, h18a⟩, ⟨_, rfl⟩⟩
        · simp at hq
      case hend =>
        intro listed act w3 hI hall
        obtain ⟨nn, rfl⟩ := hI.cls
        obtain ⟨rq, g2, hrq⟩ := hI.has 19 2 rfl (hall 19 (by decide))
        have hd := hI.defers
        clear hI hall
        go_wp2
        refine bodyPost_ret (v := .float .f32 rq) (by simp [results, Try.results65, g2, go_sem]) (by first | rfl | exact hd) ?_
        have hq : canon .f32 rq = gridV p2 p4 2 sp := by
          rw [hrq]
          unfold gridV leq32
          rw [ql]
          rfl
        first | exact ⟨rq, nn, rfl, hq, rfl⟩ | exact ⟨rq, rfl, hq, nn, rfl⟩
  · have e1 : (st != 2) = true := by simpa using hs
    go_enter Try.func65, Try.ntmps65
    go_wp2
    go_ret
    have hq : canon .f32 0 = gridV p2 p4 st sp := by unfold gridV; rw [decide_eq_false hs]; exact canon_zero
    first | exact ⟨0, 0, rfl, hq, rfl⟩ | exact ⟨0, rfl, hq, 0, rfl⟩ | exact ⟨0, rfl, hq, _, rfl⟩
set_option maxHeartbeats 8000000 in
set_option maxRecDepth 100000 in
theorem i_GridTorque (p0 p1 p2 p3 p4 p5 p6 p7 : Nat) (st : Int) (sp pi en : Nat) (w : World) :
    Calls Try.prog 38 #[.agg #[.float .f32 p0, .float .f32 p1, .float .f32 p2, .float .f32 p3, .float .f32 p4, .float .f32 p5, .float .f32 p6, .float .f32 p7, .int .i64 st, .float .f32 sp, .float .f32 pi, .float .f32 en]] w fun e w' => ∃ r, e = .returned (.tuple #[.float .f32 r, .bool (gridO (driveV p0 p1 p2 p3 p4 p5 p6 p7 st sp pi en) (gridV p2 p4 st sp))]) ∧ canon .f32 r = gridR (driveV p0 p1 p2 p3 p4 p5 p6 p7 st sp pi en) (gridV p2 p4 st sp) ∧ Below w.heap.size w w' := by
  have HB : ∀ o1 o2, Hid (Below w.heap.size w ((w.alloc o1).alloc o2)) := fun _ _ => Lib.hid (((Below.refl _ _).alloc (Nat.le_refl _) _).alloc (by simp) _)
  have K1 : ∀ o t, Hid (BlkL ((w.alloc (.cells #[.float .f32 p0, .float .f32 p1, .float .f32 p2, .float .f32 p3, .float .f32 p4, .float .f32 p5, .float .f32 p6, .float .f32 p7, .int .i64 st, .float .f32 sp, .float .f32 pi, .float .f32 en] t)).alloc o) w.heap.size [.float .f32 p0, .float .f32 p1, .float .f32 p2, .float .f32 p3, .float .f32 p4, .float .f32 p5, .float .f32 p6, .float .f32 p7, .int .i64 st, .float .f32 sp, .float .f32 pi, .float .f32 en]) := fun _ _ => Lib.hid ((blkL_at w #[.float .f32 p0, .float .f32 p1, .float .f32 p2, .float .f32 p3, .float .f32 p4, .float .f32 p5, .float .f32 p6, .float .f32 p7, .int .i64 st, .float .f32 sp, .float .f32 pi, .float .f32 en] _ rfl).alloc _)
  have K2 : ∀ o t, Hid (BlkL ((w.alloc o).alloc (.cells #[.float .f32 p0, .float .f32 p1, .float .f32 p2, .float .f32 p3, .float .f32 p4, .float .f32 p5, .float .f32 p6, .float .f32 p7] t)) (w.heap.size + 1) [.float .f32 p0, .float .f32 p1, .float .f32 p2, .float .f32 p3, .float .f32 p4, .float .f32 p5, .float .f32 p6, .float .f32 p7]) := fun _ _ => Lib.hid (blkL_at (w.alloc _) #[.float .f32 p0, .float .f32 p1, .float .f32 p2, .float .f32 p3, .float .f32 p4, .float .f32 p5, .float .f32 p6, .float .f32 p7] _ (by simp))
  by_cases hs : st = 2
  · subst hs
    obtain ⟨v, hv⟩ : ∃ v, driveV p0 p1 p2 p3 p4 p5 p6 p7 2 sp pi en = v := ⟨_, rfl⟩
    rw [hv]
    have HV := Lib.hid hv
    clear hv
    go_enter Try.func38, Try.ntmps38
    go_wp2_with fail
    refine (i_ValidDrive p0 p1 p2 p3 p4 p5 p6 p7 2 sp pi en _).mono ?_
    rintro e w1 ⟨rfl, b1⟩
    have L1 : Hid (BlkL w1 w.heap.size [.float .f32 p0, .float .f32 p1, .float .f32 p2, .float .f32 p3, .float .f32 p4, .float .f32 p5, .float .f32 p6, .float .f32 p7, .int .i64 2, .float .f32 sp, .float .f32 pi, .float .f32 en]) := Lib.hid ((K1 _ _).out.below b1)
    have L2 : Hid (BlkL w1 (w.heap.size + 1) [.float .f32 p0, .float .f32 p1, .float .f32 p2, .float .f32 p3, .float .f32 p4, .float .f32 p5, .float .f32 p6, .float .f32 p7]) := Lib.hid ((K2 _ _).out.below b1)
    have B1 : Hid (Below w.heap.size w w1) := Lib.hid (below_of (HB _ _).out (HB _ _).out.size b1)
    clear b1 K1 K2 HB
    have HK := L1.out.c12
    have HC := Lib.hid HK
    obtain ⟨⟨k0, k1, k2, k3, k4, k5, k6, k7⟩, k8, k9, k10, k11⟩ := HK
    obtain ⟨c0, c1, c2, c3, c4, c5, c6, c7⟩ := L2.out.c8
    have hst : ∀ m, ∃ nn, { (w1.drewN m) with drawn := (w1.drewN m).drawn + 1 } = w1.drewN nn := fun m => ⟨m + 1, rfl⟩
    have hdd : ∀ nn j, ∃ mm, (w1.drewN nn).drewN j = w1.drewN mm := fun nn j => ⟨nn + j, World.drewN_drewN ..⟩
    rw [HV.out]
    cases v
    · go_wp2
      go_ret2
      exact ⟨_, rfl, canon_zero, B1.out⟩
    · cases ql : (FloatKind.f32.format.order sp p4 == some .lt || FloatKind.f32.format.order sp p4 == some .eq)
      · go_wp2_with fail
        refine (i_onlyFiniteC _ (gridB p2 sp) _ (canonF rfl rfl)).mono ?_
        rintro e w' ⟨r, n, rfl, hr, rfl⟩
        have HR := Lib.hid hr; clear hr
        go_wp2
        go_ret2
        exact ⟨_, by unfold gridO gridV leq32; rw [ql]; rfl, by rw [HR.out]; unfold gridR gridV leq32; rw [ql]; rfl, below_draws B1.out _⟩
      · go_wp2_with fail
        refine wp_region_inv3 (fun q0 v => match q0 with
          | 0 => v = .pointer (some ⟨(w.heap.size + 1), 2, none⟩)
          | 1 => v = .float .f32 p2
          | 2 => v = .pointer (some ⟨w.heap.size, 9, none⟩)
          | 3 => v = .float .f32 sp
          | 4 => ∃ r, v = .float .f32 r ∧ canon .f32 r = fop .mul .f32 (canon .f32 p2) (canon .f32 sp)
          | 5 => v = .pointer (some ⟨(w.heap.size + 1), 4, none⟩)
          | 6 => v = .float .f32 p4
          | 7 => v = .pointer (some ⟨(w.heap.size + 1), 4, none⟩)
          | 8 => v = .float .f32 p4
          | 9 => ∃ r, v = .float .f32 r ∧ canon .f32 r = fop .mul .f32 (canon .f32 p4) (canon .f32 p4)
          | 10 => ∃ r, v = .float .f32 r ∧ canon .f32 r = fop .quo .f32 (fop .mul .f32 (canon .f32 p2) (canon .f32 sp)) (fop .mul .f32 (canon .f32 p4) (canon .f32 p4))
          | 11 => ∃ r, v = .tuple #[.float .f32 r, .bool (fin .f32 (fop .quo .f32 (fop .mul .f32 (canon .f32 p2) (canon .f32 sp)) (fop .mul .f32 (canon .f32 p4) (canon .f32 p4))))] ∧ canon .f32 r = onlyN (fop .quo .f32 (fop .mul .f32 (canon .f32 p2) (canon .f32 sp)) (fop .mul .f32 (canon .f32 p4) (canon .f32 p4)))
          | 12 => ∃ r, v = .float .f32 r ∧ canon .f32 r = onlyN (fop .quo .f32 (fop .mul .f32 (canon .f32 p2) (canon .f32 sp)) (fop .mul .f32 (canon .f32 p4) (canon .f32 p4)))
          | 13 => v = .bool (fin .f32 (fop .quo .f32 (fop .mul .f32 (canon .f32 p2) (canon .f32 sp)) (fop .mul .f32 (canon .f32 p4) (canon .f32 p4))))
          | 14 => ∃ r, v = .float .f32 r ∧ canon .f32 r = onlyN (fop .quo .f32 (fop .mul .f32 (canon .f32 p2) (canon .f32 sp)) (fop .mul .f32 (canon .f32 p4) (canon .f32 p4)))
          | 15 => v = .bool (fin .f32 (fop .quo .f32 (fop .mul .f32 (canon .f32 p2) (canon .f32 sp)) (fop .mul .f32 (canon .f32 p4) (canon .f32 p4))))
          | _ => False) (fun _ ww => ∃ nn, ww = w1.drewN nn) (by kernel_rfl) (by kernel_rfl) ⟨1, rfl⟩ ?hop ?hend
        case hop =>
          intro q o hq listed act w3 hI hnot hcl hall
          obtain ⟨nn, rfl⟩ := hI.cls
          rcases q with _ | _ | _ | _ | _ | _ | _ | _ | _ | _ | _ | _ | _ | _ | _ | _ | q
          · simp at hq; subst hq
            have g4 : act.tmps[4]?.getD undef = .pointer (some ⟨(w.heap.size + 1), 0, none⟩) := hI.kept 4 (by kernel_rfl)
            clear hI hall hnot hcl
            refine .inl ⟨wanted_none rfl, ?_⟩
            unfold Oper.wp
            go_simp
            all_goals exact ⟨_, rfl, rfl, ⟨_, rfl⟩⟩
          · simp at hq; subst hq
            have g21 : act.tmps[21]?.getD undef = .pointer (some ⟨(w.heap.size + 1), 2, none⟩) := hI.has 0 21 rfl (hall ⟨0, .data⟩ (by simp) rfl)
            clear hI hall hnot hcl
            refine .inl ⟨wanted_none rfl, ?_⟩
            unfold Oper.wp
            go_simp
            all_goals exact ⟨_, rfl, rfl, ⟨_, rfl⟩⟩
          · simp at hq; subst hq
            have g1 : act.tmps[1]?.getD undef = .pointer (some ⟨w.heap.size, 0, none⟩) := hI.kept 1 (by kernel_rfl)
            clear hI hall hnot hcl
            refine .inl ⟨wanted_none rfl, ?_⟩
            unfold Oper.wp
            go_simp
            all_goals exact ⟨_, rfl, rfl, ⟨_, rfl⟩⟩
          · simp at hq; subst hq
            have g23 : act.tmps[23]?.getD undef = .pointer (some ⟨w.heap.size, 9, none⟩) := hI.has 2 23 rfl (hall ⟨2, .data⟩ (by simp) rfl)
            clear hI hall hnot hcl
            refine .inl ⟨wanted_none rfl, ?_⟩
            unfold Oper.wp
            go_simp
            all_goals exact ⟨_, rfl, rfl, ⟨_, rfl⟩⟩
          · simp at hq; subst hq
            have g22 : act.tmps[22]?.getD undef = .float .f32 p2 := hI.has 1 22 rfl (hall ⟨1, .data⟩ (by simp) rfl)
            have g24 : act.tmps[24]?.getD undef = .float .f32 sp := hI.has 3 24 rfl (hall ⟨3, .data⟩ (by simp) rfl)
            clear hI hall hnot hcl
            refine .inl ⟨wanted_none rfl, ?_⟩
            unfold Oper.wp
            go_simp
            exact ⟨_, rfl, ⟨_, rfl, canonF rfl rfl⟩, by first | exact ⟨_, rfl⟩ | exact hdd _ _⟩
          · simp at hq; subst hq
            have g4 : act.tmps[4]?.getD undef = .pointer (some ⟨(w.heap.size + 1), 0, none⟩) := hI.kept 4 (by kernel_rfl)
            clear hI hall hnot hcl
            refine .inl ⟨wanted_none rfl, ?_⟩
            unfold Oper.wp
            go_simp
            all_goals exact ⟨_, rfl, rfl, ⟨_, rfl⟩⟩
          · simp at hq; subst hq
            have g26 : act.tmps[26]?.getD undef = .pointer (some ⟨(w.heap.size + 1), 4, none⟩) := hI.has 5 26 rfl (hall ⟨5, .data⟩ (by simp) rfl)
            clear hI hall hnot hcl
            refine .inl ⟨wanted_none rfl, ?_⟩
            unfold Oper.wp
            go_simp
            all_goals exact ⟨_, rfl, rfl, ⟨_, rfl⟩⟩
          · simp at hq; subst hq
            have g4 : act.tmps[4]?.getD undef = .pointer (some ⟨(w.heap.size + 1), 0, none⟩) := hI.kept 4 (by kernel_rfl)
            clear hI hall hnot hcl
            refine .inl ⟨wanted_none rfl, ?_⟩
            unfold Oper.wp
            go_simp
            all_goals exact ⟨_, rfl, rfl, ⟨_, rfl⟩⟩
          · simp at hq; subst hq
            have g28 : act.tmps[28]?.getD undef = .pointer (some ⟨(w.heap.size + 1), 4, none⟩) := hI.has 7 28 rfl (hall ⟨7, .data⟩ (by simp) rfl)
            clear hI hall hnot hcl
            refine .inl ⟨wanted_none rfl, ?_⟩
            unfold Oper.wp
            go_simp
            all_goals exact ⟨_, rfl, rfl, ⟨_, rfl⟩⟩
          · simp at hq; subst hq
            have g27 : act.tmps[27]?.getD undef = .float .f32 p4 := hI.has 6 27 rfl (hall ⟨6, .data⟩ (by simp) rfl)
            have g29 : act.tmps[29]?.getD undef = .float .f32 p4 := hI.has 8 29 rfl (hall ⟨8, .data⟩ (by simp) rfl)
            clear hI hall hnot hcl
            refine .inl ⟨wanted_none rfl, ?_⟩
            unfold Oper.wp
            go_simp
            refine (i_mulNumbers _ _ _).mono ?_
            rintro e w4 ⟨rfl, rfl⟩
            exact ⟨_, rfl, ⟨_, rfl, canonF rfl rfl⟩, by first | exact ⟨_, rfl⟩ | exact hdd _ _⟩
          · simp at hq; subst hq
            obtain ⟨r4, g25, h4a⟩ := hI.has 4 25 rfl (hall ⟨4, .data⟩ (by simp) rfl)
            obtain ⟨r9, g30, h9a⟩ := hI.has 9 30 rfl (hall ⟨9, .data⟩ (by simp) rfl)
            clear hI hall hnot hcl
            refine .inl ⟨wanted_none rfl, ?_⟩
            unfold Oper.wp
            go_simp
            exact ⟨_, rfl, ⟨_, rfl, canonF h4a h9a⟩, by first | exact ⟨_, rfl⟩ | exact hdd _ _⟩
          · simp at hq; subst hq
            obtain ⟨r10, g31, h10a⟩ := hI.has 10 31 rfl (hall ⟨10, .data⟩ (by simp) rfl)
            clear hI hall hnot hcl
            refine .inl ⟨wanted_none rfl, ?_⟩
            unfold Oper.wp
            go_simp
            refine (i_onlyFiniteC _ (fop .quo .f32 (fop .mul .f32 (canon .f32 p2) (canon .f32 sp)) (fop .mul .f32 (canon .f32 p4) (canon .f32 p4))) _ h10a).mono ?_
            rintro e w4 ⟨ro, no, rfl, hro, rfl⟩
            exact ⟨_, rfl, ⟨_, rfl, hro⟩, by first | exact ⟨_, rfl⟩ | exact hdd _ _⟩
          · simp at hq; subst hq
            obtain ⟨r11, g32, h11a⟩ := hI.has 11 32 rfl (hall ⟨11, .data⟩ (by simp) rfl)
            clear hI hall hnot hcl
            refine .inl ⟨wanted_none rfl, ?_⟩
            unfold Oper.wp
            go_simp
            exact ⟨_, rfl, ⟨_, rfl, h11a⟩, ⟨_, rfl⟩⟩
          · simp at hq; subst hq
            obtain ⟨r11, g32, h11a⟩ := hI.has 11 32 rfl (hall ⟨11, .data⟩ (by simp) rfl)
            clear hI hall hnot hcl
            refine .inl ⟨wanted_none rfl, ?_⟩
            unfold Oper.wp
            go_simp
            all_goals exact ⟨_, rfl, rfl, ⟨_, rfl⟩⟩
          · simp at hq; subst hq
            obtain ⟨r12, g33, h12a⟩ := hI.has 12 33 rfl (hall ⟨12, .data⟩ (by simp) rfl)
            clear hI hall hnot hcl
            refine .inl ⟨wanted_none rfl, ?_⟩
            unfold Oper.wp
            go_simp
            exact ⟨_, rfl, ⟨_, rfl, h12a⟩, ⟨_, rfl⟩⟩
          · simp at hq; subst hq
            have g34 : act.tmps[34]?.getD undef = .bool (fin .f32 (fop .quo .f32 (fop .mul .f32 (canon .f32 p2) (canon .f32 sp)) (fop .mul .f32 (canon .f32 p4) (canon .f32 p4)))) := hI.has 13 34 rfl (hall ⟨13, .data⟩ (by simp) rfl)
            clear hI hall hnot hcl
            refine .inl ⟨wanted_none rfl, ?_⟩
            unfold Oper.wp
            go_simp
            all_goals exact ⟨_, rfl, rfl, ⟨_, rfl⟩⟩
          · simp at hq
        case hend =>
          intro listed act w3 hI hall
          obtain ⟨nn, rfl⟩ := hI.cls
          obtain ⟨rq, g2, hrq⟩ := hI.has 14 2 rfl (hall 14 (by decide))
          have g3 : act.tmps[3]?.getD undef = .bool (fin .f32 (fop .quo .f32 (fop .mul .f32 (canon .f32 p2) (canon .f32 sp)) (fop .mul .f32 (canon .f32 p4) (canon .f32 p4)))) := hI.has 15 3 rfl (hall 15 (by decide))
          have hd := hI.defers
          clear hI hall
          go_wp2
          refine bodyPost_ret (v := .tuple #[.float .f32 rq, .bool (fin .f32 (gridF p2 p4 sp))]) (by simp [results, Try.results38, g2, g3, go_sem, gridF]) (by first | rfl | exact hd) ⟨rq, ?_, ?_, below_draws B1.out _⟩
          · unfold gridO gridV leq32; rw [ql]; rfl
          · rw [hrq]; unfold gridR gridV leq32; rw [ql]; rfl
  · have e1 : (st != 2) = true := by simpa using hs
    have HG : Hid (gridV p2 p4 st sp = 0) := Lib.hid (by unfold gridV; rw [decide_eq_false hs]; rfl)
    rw [HG.out]
    clear hs
    obtain ⟨v, hv⟩ : ∃ v, driveV p0 p1 p2 p3 p4 p5 p6 p7 st sp pi en = v := ⟨_, rfl⟩
    rw [hv]
    have HV := Lib.hid hv
    clear hv
    go_enter Try.func38, Try.ntmps38
    go_wp2_with fail
    refine (i_ValidDrive p0 p1 p2 p3 p4 p5 p6 p7 st sp pi en _).mono ?_
    rintro e w1 ⟨rfl, b1⟩
    have L1 : Hid (BlkL w1 w.heap.size [.float .f32 p0, .float .f32 p1, .float .f32 p2, .float .f32 p3, .float .f32 p4, .float .f32 p5, .float .f32 p6, .float .f32 p7, .int .i64 st, .float .f32 sp, .float .f32 pi, .float .f32 en]) := Lib.hid ((K1 _ _).out.below b1)
    have L2 : Hid (BlkL w1 (w.heap.size + 1) [.float .f32 p0, .float .f32 p1, .float .f32 p2, .float .f32 p3, .float .f32 p4, .float .f32 p5, .float .f32 p6, .float .f32 p7]) := Lib.hid ((K2 _ _).out.below b1)
    have B1 : Hid (Below w.heap.size w w1) := Lib.hid (below_of (HB _ _).out (HB _ _).out.size b1)
    clear b1 K1 K2 HB
    have HK := L1.out.c12
    have HC := Lib.hid HK
    obtain ⟨⟨k0, k1, k2, k3, k4, k5, k6, k7⟩, k8, k9, k10, k11⟩ := HK
    obtain ⟨c0, c1, c2, c3, c4, c5, c6, c7⟩ := L2.out.c8
    have hst : ∀ m, ∃ nn, { (w1.drewN m) with drawn := (w1.drewN m).drawn + 1 } = w1.drewN nn := fun m => ⟨m + 1, rfl⟩
    have hdd : ∀ nn j, ∃ mm, (w1.drewN nn).drewN j = w1.drewN mm := fun nn j => ⟨nn + j, World.drewN_drewN ..⟩
    rw [HV.out]
    cases v
    · go_wp2
      go_ret2
      exact ⟨_, rfl, canon_zero, B1.out⟩
    · go_wp2
      go_ret2
      exact ⟨_, by unfold gridO; rw [fin_zero]; rfl, by unfold gridR; rw [onlyN_fin fin_zero]; exact canon_zero, B1.out⟩
set_option maxHeartbeats 8000000 in
set_option maxRecDepth 100000 in
theorem s_GridTorque (p0 p1 p2 p3 p4 p5 p6 p7 : Nat) (st : Int) (sp pi en : Nat) (w : World) :
    Calls Try.prog 37 #[.agg #[.float .f32 p0, .float .f32 p1, .float .f32 p2, .float .f32 p3, .float .f32 p4, .float .f32 p5, .float .f32 p6, .float .f32 p7, .int .i64 st, .float .f32 sp, .float .f32 pi, .float .f32 en]] w fun e w' => ∃ r, e = .returned (.tuple #[.float .f32 r, .bool (gridO (driveV p0 p1 p2 p3 p4 p5 p6 p7 st sp pi en) (gridV p2 p4 st sp))]) ∧ canon .f32 r = gridR (driveV p0 p1 p2 p3 p4 p5 p6 p7 st sp pi en) (gridV p2 p4 st sp) ∧ Below w.heap.size w w' := by
  obtain ⟨w1, hw⟩ : ∃ w1, w1 = w.alloc (.cells #[.float .f32 p0, .float .f32 p1, .float .f32 p2, .float .f32 p3, .float .f32 p4, .float .f32 p5, .float .f32 p6, .float .f32 p7, .int .i64 st, .float .f32 sp, .float .f32 pi, .float .f32 en] 35) := ⟨_, rfl⟩
  have B1 : Hid (Below w.heap.size w w1) := Lib.hid (by rw [hw]; exact (Below.refl _ _).alloc (Nat.le_refl _) _)
  have HK : C12 w1 w.heap.size p0 p1 p2 p3 p4 p5 p6 p7 st sp pi en := by rw [hw]; exact (blkL_at w #[.float .f32 p0, .float .f32 p1, .float .f32 p2, .float .f32 p3, .float .f32 p4, .float .f32 p5, .float .f32 p6, .float .f32 p7, .int .i64 st, .float .f32 sp, .float .f32 pi, .float .f32 en] _ rfl).c12
  have HC := Lib.hid HK
  obtain ⟨⟨k0, k1, k2, k3, k4, k5, k6, k7⟩, k8, k9, k10, k11⟩ := HK
  have hst : ∀ m, ∃ nn, { (w1.drewN m) with drawn := (w1.drewN m).drawn + 1 } = w1.drewN nn := fun m => ⟨m + 1, rfl⟩
  have hdd : ∀ nn j, ∃ mm, (w1.drewN nn).drewN j = w1.drewN mm := fun nn j => ⟨nn + j, World.drewN_drewN ..⟩
  obtain ⟨v, hv⟩ : ∃ v, driveV p0 p1 p2 p3 p4 p5 p6 p7 st sp pi en = v := ⟨_, rfl⟩
  rw [hv]
  have HV := Lib.hid hv
  clear hv
  go_enter Try.func37, Try.ntmps37
  go_wp2_with fail
  rw [← hw]
  clear hw
  refine (s_l05Is p0 p1 p2 p3 p4 p5 p6 p7 st sp pi en _ _ HC.out).mono ?_
  rintro e w' ⟨n1, rfl, rfl⟩
  rw [HV.out]
  cases v
  · go_wp2
    go_ret2
    exact ⟨_, rfl, canon_zero, below_draws B1.out _⟩
  · go_wp2_with fail
    refine (s_l05Grid p0 p1 p2 p3 p4 p5 p6 p7 st sp pi en _ _ (HC.out.draws _)).mono ?_
    rintro e w' ⟨r, n2, rfl, hr, rfl⟩
    go_wp2_with fail
    refine (s_l03NumberC _ _ _ hr).mono ?_
    rintro e w' ⟨r', n3, rfl, hr', rfl⟩
    have HR := Lib.hid hr'; clear hr hr'
    go_wp2
    go_ret2
    exact ⟨_, rfl, HR.out, by repeat (first | exact B1.out | refine below_draws ?_ _)⟩
set_option maxHeartbeats 8000000 in
set_option maxRecDepth 100000 in
theorem i_DrivePower (p0 p1 p2 p3 p4 p5 p6 p7 : Nat) (st : Int) (sp pi en : Nat) (w : World) :
    Calls Try.prog 40 #[.agg #[.float .f32 p0, .float .f32 p1, .float .f32 p2, .float .f32 p3, .float .f32 p4, .float .f32 p5, .float .f32 p6, .float .f32 p7, .int .i64 st, .float .f32 sp, .float .f32 pi, .float .f32 en]] w fun e w' => ∃ r, e = .returned (.tuple #[.float .f32 r, .bool (dpwO (driveV p0 p1 p2 p3 p4 p5 p6 p7 st sp pi en) (gridV p2 p4 st sp) sp)]) ∧ canon .f32 r = dpwR (driveV p0 p1 p2 p3 p4 p5 p6 p7 st sp pi en) (gridV p2 p4 st sp) sp ∧ Below w.heap.size w w' := by
  have HB : ∀ o1, Hid (Below w.heap.size w (w.alloc o1)) := fun _ => Lib.hid ((Below.refl _ _).alloc (Nat.le_refl _) _)
  have K1 : ∀ t, Hid (BlkL (w.alloc (.cells #[.float .f32 p0, .float .f32 p1, .float .f32 p2, .float .f32 p3, .float .f32 p4, .float .f32 p5, .float .f32 p6, .float .f32 p7, .int .i64 st, .float .f32 sp, .float .f32 pi, .float .f32 en] t)) w.heap.size [.float .f32 p0, .float .f32 p1, .float .f32 p2, .float .f32 p3, .float .f32 p4, .float .f32 p5, .float .f32 p6, .float .f32 p7, .int .i64 st, .float .f32 sp, .float .f32 pi, .float .f32 en]) := fun _ => Lib.hid (blkL_at w #[.float .f32 p0, .float .f32 p1, .float .f32 p2, .float .f32 p3, .float .f32 p4, .float .f32 p5, .float .f32 p6, .float .f32 p7, .int .i64 st, .float .f32 sp, .float .f32 pi, .float .f32 en] _ rfl)
  obtain ⟨v, hv⟩ : ∃ v, driveV p0 p1 p2 p3 p4 p5 p6 p7 st sp pi en = v := ⟨_, rfl⟩
  rw [hv]
  have HV := Lib.hid hv
  clear hv
  go_enter Try.func40, Try.ntmps40
  go_wp2_with fail
  refine (i_GridTorque p0 p1 p2 p3 p4 p5 p6 p7 st sp pi en _).mono ?_
  rintro e w1 ⟨r, rfl, hr, b1⟩
  have HR := Lib.hid hr; clear hr
  have L1 : Hid (BlkL w1 w.heap.size [.float .f32 p0, .float .f32 p1, .float .f32 p2, .float .f32 p3, .float .f32 p4, .float .f32 p5, .float .f32 p6, .float .f32 p7, .int .i64 st, .float .f32 sp, .float .f32 pi, .float .f32 en]) := Lib.hid ((K1 _).out.below b1)
  have B1 : Hid (Below w.heap.size w w1) := Lib.hid (below_of (HB _).out (HB _).out.size b1)
  clear b1 K1 HB
  have HK := L1.out.c12
  have HC := Lib.hid HK
  obtain ⟨⟨k0, k1, k2, k3, k4, k5, k6, k7⟩, k8, k9, k10, k11⟩ := HK
  have hst : ∀ m, ∃ nn, { (w1.drewN m) with drawn := (w1.drewN m).drawn + 1 } = w1.drewN nn := fun m => ⟨m + 1, rfl⟩
  have hdd : ∀ nn j, ∃ mm, (w1.drewN nn).drewN j = w1.drewN mm := fun nn j => ⟨nn + j, World.drewN_drewN ..⟩
  rw [HV.out] at HR ⊢
  cases v
  · rw [show gridO false (gridV p2 p4 st sp) = false from rfl]
    go_wp2
    go_ret2
    exact ⟨_, rfl, canon_zero, B1.out⟩
  · cases hg : fin .f32 (gridV p2 p4 st sp)
    · rw [show gridO true (gridV p2 p4 st sp) = false from hg]
      go_wp2
      go_ret2
      exact ⟨_, by unfold dpwO; rw [hg]; rfl, by unfold dpwR; rw [hg]; exact canon_zero, B1.out⟩
    · rw [show gridO true (gridV p2 p4 st sp) = true from hg]
      have HQ : Hid (canon .f32 r = gridV p2 p4 st sp) := Lib.hid (by rw [HR.out]; exact onlyN_fin hg)
      have HG := Lib.hid hg; clear hg
      go_wp2_with fail
      refine (i_onlyFiniteC _ (dpwV (gridV p2 p4 st sp) sp) _ (canonF HQ.out rfl)).mono ?_
      rintro e w' ⟨r', n, rfl, hr', rfl⟩
      have HR' := Lib.hid hr'; clear hr'
      go_wp2
      go_ret2
      exact ⟨_, by unfold dpwO; rw [HG.out]; rfl, by rw [HR'.out]; unfold dpwR; rw [HG.out]; rfl, below_draws B1.out _⟩
set_option maxHeartbeats 8000000 in
set_option maxRecDepth 100000 in
theorem s_DrivePower (p0 p1 p2 p3 p4 p5 p6 p7 : Nat) (st : Int) (sp pi en : Nat) (w : World) :
    Calls Try.prog 39 #[.agg #[.float .f32 p0, .float .f32 p1, .float .f32 p2, .float .f32 p3, .float .f32 p4, .float .f32 p5, .float .f32 p6, .float .f32 p7, .int .i64 st, .float .f32 sp, .float .f32 pi, .float .f32 en]] w fun e w' => ∃ r, e = .returned (.tuple #[.float .f32 r, .bool (dpwO (driveV p0 p1 p2 p3 p4 p5 p6 p7 st sp pi en) (gridV p2 p4 st sp) sp)]) ∧ canon .f32 r = dpwR (driveV p0 p1 p2 p3 p4 p5 p6 p7 st sp pi en) (gridV p2 p4 st sp) sp ∧ Below w.heap.size w w' := by
  obtain ⟨w1, hw⟩ : ∃ w1, w1 = w.alloc (.cells #[.float .f32 p0, .float .f32 p1, .float .f32 p2, .float .f32 p3, .float .f32 p4, .float .f32 p5, .float .f32 p6, .float .f32 p7, .int .i64 st, .float .f32 sp, .float .f32 pi, .float .f32 en] 35) := ⟨_, rfl⟩
  have B1 : Hid (Below w.heap.size w w1) := Lib.hid (by rw [hw]; exact (Below.refl _ _).alloc (Nat.le_refl _) _)
  have HK : C12 w1 w.heap.size p0 p1 p2 p3 p4 p5 p6 p7 st sp pi en := by rw [hw]; exact (blkL_at w #[.float .f32 p0, .float .f32 p1, .float .f32 p2, .float .f32 p3, .float .f32 p4, .float .f32 p5, .float .f32 p6, .float .f32 p7, .int .i64 st, .float .f32 sp, .float .f32 pi, .float .f32 en] _ rfl).c12
  have HC := Lib.hid HK
  obtain ⟨⟨k0, k1, k2, k3, k4, k5, k6, k7⟩, k8, k9, k10, k11⟩ := HK
  have hst : ∀ m, ∃ nn, { (w1.drewN m) with drawn := (w1.drewN m).drawn + 1 } = w1.drewN nn := fun m => ⟨m + 1, rfl⟩
  have hdd : ∀ nn j, ∃ mm, (w1.drewN nn).drewN j = w1.drewN mm := fun nn j => ⟨nn + j, World.drewN_drewN ..⟩
  obtain ⟨v, hv⟩ : ∃ v, driveV p0 p1 p2 p3 p4 p5 p6 p7 st sp pi en = v := ⟨_, rfl⟩
  rw [hv]
  have HV := Lib.hid hv
  clear hv
  go_enter Try.func39, Try.ntmps39
  go_wp2_with fail
  rw [← hw]
  clear hw
  refine (s_l05Is p0 p1 p2 p3 p4 p5 p6 p7 st sp pi en _ _ HC.out).mono ?_
  rintro e w' ⟨n1, rfl, rfl⟩
  rw [HV.out]
  cases v
  · go_wp2
    go_ret2
    exact ⟨_, rfl, canon_zero, below_draws B1.out _⟩
  · go_wp2_with fail
    refine (s_l05Grid p0 p1 p2 p3 p4 p5 p6 p7 st sp pi en _ _ (HC.out.draws _)).mono ?_
    rintro e w' ⟨r, n2, rfl, hr, rfl⟩
    go_wp2_with fail
    refine (s_l01Finite _ _).mono ?_
    rintro e w' ⟨n3, rfl, rfl⟩
    rw [show fin .f32 r = fin .f32 (gridV p2 p4 st sp) by rw [← hr, fin_canon]]
    clear hr
    cases hg : fin .f32 (gridV p2 p4 st sp)
    · go_wp2
      go_ret2
      exact ⟨_, by unfold dpwO; rw [hg]; rfl, by unfold dpwR; rw [hg]; exact canon_zero, by repeat (first | exact B1.out | refine below_draws ?_ _)⟩
    · have HG := Lib.hid hg; clear hg
      go_wp2_with fail
      first | rw [World.drewN_drewN, World.drewN_drewN] | rw [World.drewN_drewN] | skip
      refine wp_region_inv3 (fun q0 v => match q0 with
        | 0 => ∃ r, v = .float .f32 r ∧ canon .f32 r = gridV p2 p4 st sp
        | 1 => v = .pointer (some ⟨w.heap.size, 9, none⟩)
        | 2 => v = .float .f32 sp
        | 3 => ∃ r, v = .float .f32 r ∧ canon .f32 r = fop .mul .f32 (gridV p2 p4 st sp) (canon .f32 sp)
        | 4 => ∃ r, v = .tuple #[.float .f32 r, .bool (fin .f32 (fop .mul .f32 (gridV p2 p4 st sp) (canon .f32 sp)))] ∧ canon .f32 r = onlyN (fop .mul .f32 (gridV p2 p4 st sp) (canon .f32 sp))
        | 5 => ∃ r, v = .float .f32 r ∧ canon .f32 r = onlyN (fop .mul .f32 (gridV p2 p4 st sp) (canon .f32 sp))
        | 6 => v = .bool (fin .f32 (fop .mul .f32 (gridV p2 p4 st sp) (canon .f32 sp)))
        | 7 => ∃ r, v = .float .f32 r ∧ canon .f32 r = onlyN (fop .mul .f32 (gridV p2 p4 st sp) (canon .f32 sp))
        | 8 => v = .bool (fin .f32 (fop .mul .f32 (gridV p2 p4 st sp) (canon .f32 sp)))
        | _ => False) (fun _ ww => ∃ nn, ww = w1.drewN nn) (by kernel_rfl) (by kernel_rfl) (hst _) ?hop ?hend
      case hop =>
        intro q o hq listed act w3 hI hnot hcl hall
        obtain ⟨nn, rfl⟩ := hI.cls
        rcases q with _ | _ | _ | _ | _ | _ | _ | _ | _ | q
        · simp at hq; subst hq
          have g1 : act.tmps[1]?.getD undef = .pointer (some ⟨w.heap.size, 0, none⟩) := hI.kept 1 (by kernel_rfl)
          clear hI hall hnot hcl
          refine .inl ⟨wanted_none rfl, ?_⟩
          unfold Oper.wp
          go_simp
          refine (s_l05Grid p0 p1 p2 p3 p4 p5 p6 p7 st sp pi en _ _ (HC.out.draws _)).mono ?_
          rintro e w4 ⟨ro, no, rfl, hro, rfl⟩
          exact ⟨_, rfl, ⟨_, rfl, hro⟩, by first | exact ⟨_, rfl⟩ | exact hdd _ _⟩
        · simp at hq; subst hq
          have g1 : act.tmps[1]?.getD undef = .pointer (some ⟨w.heap.size, 0, none⟩) := hI.kept 1 (by kernel_rfl)
          clear hI hall hnot hcl
          refine .inl ⟨wanted_none rfl, ?_⟩
          unfold Oper.wp
          go_simp
          all_goals exact ⟨_, rfl, rfl, ⟨_, rfl⟩⟩
        · simp at hq; subst hq
          have g12 : act.tmps[12]?.getD undef = .pointer (some ⟨w.heap.size, 9, none⟩) := hI.has 1 12 rfl (hall ⟨1, .data⟩ (by simp) rfl)
          clear hI hall hnot hcl
          refine .inl ⟨wanted_none rfl, ?_⟩
          unfold Oper.wp
          go_simp
          all_goals exact ⟨_, rfl, rfl, ⟨_, rfl⟩⟩
        · simp at hq; subst hq
          obtain ⟨r0, g11, h0a⟩ := hI.has 0 11 rfl (hall ⟨0, .data⟩ (by simp) rfl)
          have g13 : act.tmps[13]?.getD undef = .float .f32 sp := hI.has 2 13 rfl (hall ⟨2, .data⟩ (by simp) rfl)
          clear hI hall hnot hcl
          refine .inl ⟨wanted_none rfl, ?_⟩
          unfold Oper.wp
          go_simp
          exact ⟨_, rfl, ⟨_, rfl, canonF h0a rfl⟩, by first | exact ⟨_, rfl⟩ | exact hdd _ _⟩
        · simp at hq; subst hq
          obtain ⟨r3, g14, h3a⟩ := hI.has 3 14 rfl (hall ⟨3, .data⟩ (by simp) rfl)
          clear hI hall hnot hcl
          refine .inl ⟨wanted_none rfl, ?_⟩
          unfold Oper.wp
          go_simp
          refine (s_l03NumberC _ (fop .mul .f32 (gridV p2 p4 st sp) (canon .f32 sp)) _ h3a).mono ?_
          rintro e w4 ⟨ro, no, rfl, hro, rfl⟩
          exact ⟨_, rfl, ⟨_, rfl, hro⟩, by first | exact ⟨_, rfl⟩ | exact hdd _ _⟩
        · simp at hq; subst hq
          obtain ⟨r4, g15, h4a⟩ := hI.has 4 15 rfl (hall ⟨4, .data⟩ (by simp) rfl)
          clear hI hall hnot hcl
          refine .inl ⟨wanted_none rfl, ?_⟩
          unfold Oper.wp
          go_simp
          exact ⟨_, rfl, ⟨_, rfl, h4a⟩, ⟨_, rfl⟩⟩
        · simp at hq; subst hq
          obtain ⟨r4, g15, h4a⟩ := hI.has 4 15 rfl (hall ⟨4, .data⟩ (by simp) rfl)
          clear hI hall hnot hcl
          refine .inl ⟨wanted_none rfl, ?_⟩
          unfold Oper.wp
          go_simp
          all_goals exact ⟨_, rfl, rfl, ⟨_, rfl⟩⟩
        · simp at hq; subst hq
          obtain ⟨r5, g16, h5a⟩ := hI.has 5 16 rfl (hall ⟨5, .data⟩ (by simp) rfl)
          clear hI hall hnot hcl
          refine .inl ⟨wanted_none rfl, ?_⟩
          unfold Oper.wp
          go_simp
          exact ⟨_, rfl, ⟨_, rfl, h5a⟩, ⟨_, rfl⟩⟩
        · simp at hq; subst hq
          have g17 : act.tmps[17]?.getD undef = .bool (fin .f32 (fop .mul .f32 (gridV p2 p4 st sp) (canon .f32 sp))) := hI.has 6 17 rfl (hall ⟨6, .data⟩ (by simp) rfl)
          clear hI hall hnot hcl
          refine .inl ⟨wanted_none rfl, ?_⟩
          unfold Oper.wp
          go_simp
          all_goals exact ⟨_, rfl, rfl, ⟨_, rfl⟩⟩
        · simp at hq
      case hend =>
        intro listed act w3 hI hall
        obtain ⟨nn, rfl⟩ := hI.cls
        obtain ⟨rq, g2, hrq⟩ := hI.has 7 2 rfl (hall 7 (by decide))
        have g3 : act.tmps[3]?.getD undef = .bool (fin .f32 (fop .mul .f32 (gridV p2 p4 st sp) (canon .f32 sp))) := hI.has 8 3 rfl (hall 8 (by decide))
        have hd := hI.defers
        clear hI hall
        go_wp2
        refine bodyPost_ret (v := .tuple #[.float .f32 rq, .bool (fin .f32 (dpwV (gridV p2 p4 st sp) sp))]) (by simp [results, Try.results39, g2, g3, go_sem, dpwV]) (by first | rfl | exact hd) ⟨rq, ?_, ?_, below_draws B1.out _⟩
        · unfold dpwO; rw [HG.out]; rfl
        · rw [hrq]; unfold dpwR; rw [HG.out]; rfl
set_option maxHeartbeats 8000000 in
set_option maxRecDepth 100000 in
theorem s_l05Net (p0 p1 p2 p3 p4 p5 p6 p7 : Nat) (st : Int) (sp pi en : Nat) (pu B : Nat) (w : World) (hk : C12 w B p0 p1 p2 p3 p4 p5 p6 p7 st sp pi en) :
    Calls Try.prog 68 #[.pointer (some ⟨B, 0, none⟩), .float .f32 pu] w fun e w' => ∃ r n, e = .returned (.float .f32 r) ∧ canon .f32 r = netV p1 (gridV p2 p4 st sp) sp pi pu ∧ w' = w.drewN n := by
  have HC := Lib.hid hk
  obtain ⟨⟨k0, k1, k2, k3, k4, k5, k6, k7⟩, k8, k9, k10, k11⟩ := hk
  have hst : ∀ m, ∃ nn, { (w.drewN m) with drawn := (w.drewN m).drawn + 1 } = w.drewN nn := fun m => ⟨m + 1, rfl⟩
  have hdd : ∀ nn j, ∃ mm, (w.drewN nn).drewN j = w.drewN mm := fun nn j => ⟨nn + j, World.drewN_drewN ..⟩
  go_enter Try.func68, Try.ntmps68
  go_wp2_with fail
  refine wp_region_inv3 (fun q0 v => match q0 with
    | 0 => v = .float .f32 pu
    | 1 => v = .pointer (some ⟨B, 0, none⟩)
    | 2 => v = .pointer (some ⟨B, 0, none⟩)
    | 3 => v = .pointer (some ⟨B, 10, none⟩)
    | 4 => v = .float .f32 pi
    | 5 => ∃ r, v = .float .f32 r ∧ canon .f32 r = fop .sub .f32 (canon .f32 1065353216) (canon .f32 pi)
    | 6 => ∃ r, v = .float .f32 r ∧ canon .f32 r = fop .mul .f32 (canon .f32 pu) (fop .sub .f32 (canon .f32 1065353216) (canon .f32 pi))
    | 7 => v = .pointer (some ⟨B, 0, none⟩)
    | 8 => ∃ r, v = .float .f32 r ∧ canon .f32 r = gridV p2 p4 st sp
    | 9 => ∃ r, v = .float .f32 r ∧ canon .f32 r = fop .sub .f32 (fop .mul .f32 (canon .f32 pu) (fop .sub .f32 (canon .f32 1065353216) (canon .f32 pi))) (gridV p2 p4 st sp)
    | 10 => v = .pointer (some ⟨B, 0, none⟩)
    | 11 => v = .pointer (some ⟨B, 0, none⟩)
    | 12 => v = .pointer (some ⟨B, 0, none⟩)
    | 13 => v = .pointer (some ⟨B, 1, none⟩)
    | 14 => v = .float .f32 p1
    | 15 => v = .pointer (some ⟨B, 0, none⟩)
    | 16 => v = .pointer (some ⟨B, 0, none⟩)
    | 17 => v = .pointer (some ⟨B, 9, none⟩)
    | 18 => v = .float .f32 sp
    | 19 => ∃ r, v = .float .f32 r ∧ canon .f32 r = fop .mul .f32 (canon .f32 p1) (canon .f32 sp)
    | 20 => ∃ r, v = .float .f32 r ∧ canon .f32 r = fop .sub .f32 (fop .sub .f32 (fop .mul .f32 (canon .f32 pu) (fop .sub .f32 (canon .f32 1065353216) (canon .f32 pi))) (gridV p2 p4 st sp)) (fop .mul .f32 (canon .f32 p1) (canon .f32 sp))
    | 21 => ∃ r, v = .float .f32 r ∧ canon .f32 r = fop .sub .f32 (fop .sub .f32 (fop .mul .f32 (canon .f32 pu) (fop .sub .f32 (canon .f32 1065353216) (canon .f32 pi))) (gridV p2 p4 st sp)) (fop .mul .f32 (canon .f32 p1) (canon .f32 sp))
    | _ => False) (fun _ ww => ∃ nn, ww = w.drewN nn) (by kernel_rfl) (by kernel_rfl) ⟨1, rfl⟩ ?hop ?hend
  case hop =>
    intro q o hq listed act w3 hI hnot hcl hall
    obtain ⟨nn, rfl⟩ := hI.cls
    rcases q with _ | _ | _ | _ | _ | _ | _ | _ | _ | _ | _ | _ | _ | _ | _ | _ | _ | _ | _ | _ | _ | _ | q
    · simp at hq; subst hq
      have g1 : act.tmps[1]?.getD undef = .float .f32 pu := hI.kept 1 (by kernel_rfl)
      clear hI hall hnot hcl
      refine .inl ⟨wanted_none rfl, ?_⟩
      unfold Oper.wp
      go_simp
      all_goals exact ⟨_, rfl, rfl, ⟨_, rfl⟩⟩
    · simp at hq; subst hq
      have g0 : act.tmps[0]?.getD undef = .pointer (some ⟨B, 0, none⟩) := hI.kept 0 (by kernel_rfl)
      clear hI hall hnot hcl
      refine .inl ⟨wanted_none rfl, ?_⟩
      unfold Oper.wp
      go_simp
      all_goals exact ⟨_, rfl, rfl, ⟨_, rfl⟩⟩
    · simp at hq; subst hq
      have g6 : act.tmps[6]?.getD undef = .pointer (some ⟨B, 0, none⟩) := hI.has 1 6 rfl (hall ⟨1, .data⟩ (by simp) rfl)
      clear hI hall hnot hcl
      refine .inl ⟨wanted_none rfl, ?_⟩
      unfold Oper.wp
      go_simp
      all_goals exact ⟨_, rfl, rfl, ⟨_, rfl⟩⟩
    · simp at hq; subst hq
      have g7 : act.tmps[7]?.getD undef = .pointer (some ⟨B, 0, none⟩) := hI.has 2 7 rfl (hall ⟨2, .data⟩ (by simp) rfl)
      clear hI hall hnot hcl
      refine .inl ⟨wanted_none rfl, ?_⟩
      unfold Oper.wp
      go_simp
      all_goals exact ⟨_, rfl, rfl, ⟨_, rfl⟩⟩
    · simp at hq; subst hq
      have g8 : act.tmps[8]?.getD undef = .pointer (some ⟨B, 10, none⟩) := hI.has 3 8 rfl (hall ⟨3, .data⟩ (by simp) rfl)
      clear hI hall hnot hcl
      refine .inl ⟨wanted_none rfl, ?_⟩
      unfold Oper.wp
      go_simp
      all_goals exact ⟨_, rfl, rfl, ⟨_, rfl⟩⟩
    · simp at hq; subst hq
      have g9 : act.tmps[9]?.getD undef = .float .f32 pi := hI.has 4 9 rfl (hall ⟨4, .data⟩ (by simp) rfl)
      clear hI hall hnot hcl
      refine .inl ⟨wanted_none rfl, ?_⟩
      unfold Oper.wp
      go_simp
      exact ⟨_, rfl, ⟨_, rfl, canonF rfl rfl⟩, by first | exact ⟨_, rfl⟩ | exact hdd _ _⟩
    · simp at hq; subst hq
      have g5 : act.tmps[5]?.getD undef = .float .f32 pu := hI.has 0 5 rfl (hall ⟨0, .data⟩ (by simp) rfl)
      obtain ⟨r5, g10, h5a⟩ := hI.has 5 10 rfl (hall ⟨5, .data⟩ (by simp) rfl)
      clear hI hall hnot hcl
      refine .inl ⟨wanted_none rfl, ?_⟩
      unfold Oper.wp
      go_simp
      exact ⟨_, rfl, ⟨_, rfl, canonF rfl h5a⟩, by first | exact ⟨_, rfl⟩ | exact hdd _ _⟩
    · simp at hq; subst hq
      have g0 : act.tmps[0]?.getD undef = .pointer (some ⟨B, 0, none⟩) := hI.kept 0 (by kernel_rfl)
      clear hI hall hnot hcl
      refine .inl ⟨wanted_none rfl, ?_⟩
      unfold Oper.wp
      go_simp
      all_goals exact ⟨_, rfl, rfl, ⟨_, rfl⟩⟩
    · simp at hq; subst hq
      have g12 : act.tmps[12]?.getD undef = .pointer (some ⟨B, 0, none⟩) := hI.has 7 12 rfl (hall ⟨7, .data⟩ (by simp) rfl)
      clear hI hall hnot hcl
      refine .inl ⟨wanted_none rfl, ?_⟩
      unfold Oper.wp
      go_simp
      refine (s_l05Grid p0 p1 p2 p3 p4 p5 p6 p7 st sp pi en _ _ (HC.out.draws _)).mono ?_
      rintro e w4 ⟨ro, no, rfl, hro, rfl⟩
      exact ⟨_, rfl, ⟨_, rfl, hro⟩, by first | exact ⟨_, rfl⟩ | exact hdd _ _⟩
    · simp at hq; subst hq
      obtain ⟨r6, g11, h6a⟩ := hI.has 6 11 rfl (hall ⟨6, .data⟩ (by simp) rfl)
      obtain ⟨r8, g13, h8a⟩ := hI.has 8 13 rfl (hall ⟨8, .data⟩ (by simp) rfl)
      clear hI hall hnot hcl
      refine .inl ⟨wanted_none rfl, ?_⟩
      unfold Oper.wp
      go_simp
      exact ⟨_, rfl, ⟨_, rfl, canonF h6a h8a⟩, by first | exact ⟨_, rfl⟩ | exact hdd _ _⟩
    · simp at hq; subst hq
      have g0 : act.tmps[0]?.getD undef = .pointer (some ⟨B, 0, none⟩) := hI.kept 0 (by kernel_rfl)
      clear hI hall hnot hcl
      refine .inl ⟨wanted_none rfl, ?_⟩
      unfold Oper.wp
      go_simp
      all_goals exact ⟨_, rfl, rfl, ⟨_, rfl⟩⟩
    · simp at hq; subst hq
      have g15 : act.tmps[15]?.getD undef = .pointer (some ⟨B, 0, none⟩) := hI.has 10 15 rfl (hall ⟨10, .data⟩ (by simp) rfl)
      clear hI hall hnot hcl
      refine .inl ⟨wanted_none rfl, ?_⟩
      unfold Oper.wp
      go_simp
      all_goals exact ⟨_, rfl, rfl, ⟨_, rfl⟩⟩
    · simp at hq; subst hq
      have g16 : act.tmps[16]?.getD undef = .pointer (some ⟨B, 0, none⟩) := hI.has 11 16 rfl (hall ⟨11, .data⟩ (by simp) rfl)
      clear hI hall hnot hcl
      refine .inl ⟨wanted_none rfl, ?_⟩
      unfold Oper.wp
      go_simp
      all_goals exact ⟨_, rfl, rfl, ⟨_, rfl⟩⟩
    · simp at hq; subst hq
      have g17 : act.tmps[17]?.getD undef = .pointer (some ⟨B, 0, none⟩) := hI.has 12 17 rfl (hall ⟨12, .data⟩ (by simp) rfl)
      clear hI hall hnot hcl
      refine .inl ⟨wanted_none rfl, ?_⟩
      unfold Oper.wp
      go_simp
      all_goals exact ⟨_, rfl, rfl, ⟨_, rfl⟩⟩
    · simp at hq; subst hq
      have g18 : act.tmps[18]?.getD undef = .pointer (some ⟨B, 1, none⟩) := hI.has 13 18 rfl (hall ⟨13, .data⟩ (by simp) rfl)
      clear hI hall hnot hcl
      refine .inl ⟨wanted_none rfl, ?_⟩
      unfold Oper.wp
      go_simp
      all_goals exact ⟨_, rfl, rfl, ⟨_, rfl⟩⟩
    · simp at hq; subst hq
      have g0 : act.tmps[0]?.getD undef = .pointer (some ⟨B, 0, none⟩) := hI.kept 0 (by kernel_rfl)
      clear hI hall hnot hcl
      refine .inl ⟨wanted_none rfl, ?_⟩
      unfold Oper.wp
      go_simp
      all_goals exact ⟨_, rfl, rfl, ⟨_, rfl⟩⟩
    · simp at hq; subst hq
      have g20 : act.tmps[20]?.getD undef = .pointer (some ⟨B, 0, none⟩) := hI.has 15 20 rfl (hall ⟨15, .data⟩ (by simp) rfl)
      clear hI hall hnot hcl
      refine .inl ⟨wanted_none rfl, ?_⟩
      unfold Oper.wp
      go_simp
      all_goals exact ⟨_, rfl, rfl, ⟨_, rfl⟩⟩
    · simp at hq; subst hq
      have g21 : act.tmps[21]?.getD undef = .pointer (some ⟨B, 0, none⟩) := hI.has 16 21 rfl (hall ⟨16, .data⟩ (by simp) rfl)
      clear hI hall hnot hcl
      refine .inl ⟨wanted_none rfl, ?_⟩
      unfold Oper.wp
      go_simp
      all_goals exact ⟨_, rfl, rfl, ⟨_, rfl⟩⟩
    · simp at hq; subst hq
      have g22 : act.tmps[22]?.getD undef = .pointer (some ⟨B, 9, none⟩) := hI.has 17 22 rfl (hall ⟨17, .data⟩ (by simp) rfl)
      clear hI hall hnot hcl
      refine .inl ⟨wanted_none rfl, ?_⟩
      unfold Oper.wp
      go_simp
      all_goals exact ⟨_, rfl, rfl, ⟨_, rfl⟩⟩
    · simp at hq; subst hq
      have g19 : act.tmps[19]?.getD undef = .float .f32 p1 := hI.has 14 19 rfl (hall ⟨14, .data⟩ (by simp) rfl)
      have g23 : act.tmps[23]?.getD undef = .float .f32 sp := hI.has 18 23 rfl (hall ⟨18, .data⟩ (by simp) rfl)
      clear hI hall hnot hcl
      refine .inl ⟨wanted_none rfl, ?_⟩
      unfold Oper.wp
      go_simp
      exact ⟨_, rfl, ⟨_, rfl, canonF rfl rfl⟩, by first | exact ⟨_, rfl⟩ | exact hdd _ _⟩
    · simp at hq; subst hq
      obtain ⟨r9, g14, h9a⟩ := hI.has 9 14 rfl (hall ⟨9, .data⟩ (by simp) rfl)
      obtain ⟨r19, g24, h19a⟩ := hI.has 19 24 rfl (hall ⟨19, .data⟩ (by simp) rfl)
      clear hI hall hnot hcl
      refine .inl ⟨wanted_none rfl, ?_⟩
      unfold Oper.wp
      go_simp
      exact ⟨_, rfl, ⟨_, rfl, canonF h9a h19a⟩, by first | exact ⟨_, rfl⟩ | exact hdd _ _⟩
    · simp at hq; subst hq
      obtain ⟨r20, g25, h20a⟩ := hI.has 20 25 rfl (hall ⟨20, .data⟩ (by simp) rfl)
      clear hI hall hnot hcl
      refine .inl ⟨wanted_none rfl, ?_⟩
      unfold Oper.wp
      go_simp
      exact ⟨_, rfl, ⟨_, rfl, h20a⟩, ⟨_, rfl⟩⟩
    · simp at hq
  case hend =>
    intro listed act w3 hI hall
    obtain ⟨nn, rfl⟩ := hI.cls
    obtain ⟨rq, g4, hrq⟩ := hI.has 21 4 rfl (hall 21 (by decide))
    have hd := hI.defers
    clear hI hall
    go_wp2
    refine bodyPost_ret (v := .float .f32 rq) (by simp [results, Try.results68, g4, go_sem]) (by first | rfl | exact hd) ?_
    first | exact ⟨rq, nn, rfl, hrq, rfl⟩ | exact ⟨rq, rfl, hrq, nn, rfl⟩
set_option maxHeartbeats 8000000 in
set_option maxRecDepth 100000 in
theorem s_NetTorque (p0 p1 p2 p3 p4 p5 p6 p7 : Nat) (st : Int) (sp pi en : Nat) (pu : Nat) (w : World) :
    Calls Try.prog 41 #[.agg #[.float .f32 p0, .float .f32 p1, .float .f32 p2, .float .f32 p3, .float .f32 p4, .float .f32 p5, .float .f32 p6, .float .f32 p7, .int .i64 st, .float .f32 sp, .float .f32 pi, .float .f32 en], .float .f32 pu] w fun e w' => ∃ r, e = .returned (.tuple #[.float .f32 r, .bool (netO (driveV p0 p1 p2 p3 p4 p5 p6 p7 st sp pi en) p1 (gridV p2 p4 st sp) sp pi pu)]) ∧ canon .f32 r = netR (driveV p0 p1 p2 p3 p4 p5 p6 p7 st sp pi en) p1 (gridV p2 p4 st sp) sp pi pu ∧ Below w.heap.size w w' := by
  obtain ⟨w1, hw⟩ : ∃ w1, w1 = w.alloc (.cells #[.float .f32 p0, .float .f32 p1, .float .f32 p2, .float .f32 p3, .float .f32 p4, .float .f32 p5, .float .f32 p6, .float .f32 p7, .int .i64 st, .float .f32 sp, .float .f32 pi, .float .f32 en] 35) := ⟨_, rfl⟩
  have B1 : Hid (Below w.heap.size w w1) := Lib.hid (by rw [hw]; exact (Below.refl _ _).alloc (Nat.le_refl _) _)
  have HK : C12 w1 w.heap.size p0 p1 p2 p3 p4 p5 p6 p7 st sp pi en := by rw [hw]; exact (blkL_at w #[.float .f32 p0, .float .f32 p1, .float .f32 p2, .float .f32 p3, .float .f32 p4, .float .f32 p5, .float .f32 p6, .float .f32 p7, .int .i64 st, .float .f32 sp, .float .f32 pi, .float .f32 en] _ rfl).c12
  have HC := Lib.hid HK
  obtain ⟨⟨k0, k1, k2, k3, k4, k5, k6, k7⟩, k8, k9, k10, k11⟩ := HK
  have hst : ∀ m, ∃ nn, { (w1.drewN m) with drawn := (w1.drewN m).drawn + 1 } = w1.drewN nn := fun m => ⟨m + 1, rfl⟩
  have hdd : ∀ nn j, ∃ mm, (w1.drewN nn).drewN j = w1.drewN mm := fun nn j => ⟨nn + j, World.drewN_drewN ..⟩
  obtain ⟨v, hv⟩ : ∃ v, driveV p0 p1 p2 p3 p4 p5 p6 p7 st sp pi en = v := ⟨_, rfl⟩
  rw [hv]
  have HV := Lib.hid hv
  clear hv
  go_enter Try.func41, Try.ntmps41
  go_wp2_with fail
  rw [← hw]
  clear hw
  refine (s_l05Is p0 p1 p2 p3 p4 p5 p6 p7 st sp pi en _ _ HC.out).mono ?_
  rintro e w' ⟨n1, rfl, rfl⟩
  rw [HV.out]
  cases v
  · go_wp2
    go_ret2
    exact ⟨_, rfl, canon_zero, below_draws B1.out _⟩
  · go_wp2_with fail
    refine (s_l01Finite _ _).mono ?_
    rintro e w' ⟨n3, rfl, rfl⟩
    cases hg : fin .f32 pu
    · go_wp2
      go_ret2
      exact ⟨_, by unfold netO; rw [net_pull hg]; rfl, by unfold netR; rw [onlyN_not (net_pull hg)]; exact canon_zero, by repeat (first | exact B1.out | refine below_draws ?_ _)⟩
    · have HG := Lib.hid hg; clear hg
      go_wp2_with fail
      refine (s_l05Net p0 p1 p2 p3 p4 p5 p6 p7 st sp pi en pu _ _ (by first | exact (HC.out.draws _).draws _ | exact HC.out.draws _)).mono ?_
      rintro e w' ⟨r, n2, rfl, hr, rfl⟩
      go_wp2_with fail
      refine (s_l03NumberC _ _ _ hr).mono ?_
      rintro e w' ⟨r', n4, rfl, hr', rfl⟩
      have HR := Lib.hid hr'; clear hr hr'
      go_wp2
      go_ret2
      exact ⟨_, rfl, HR.out, by repeat (first | exact B1.out | refine below_draws ?_ _)⟩
set_option maxHeartbeats 8000000 in
set_option maxRecDepth 100000 in
theorem i_NetTorque (p0 p1 p2 p3 p4 p5 p6 p7 : Nat) (st : Int) (sp pi en : Nat) (pu : Nat) (w : World) :
    Calls Try.prog 42 #[.agg #[.float .f32 p0, .float .f32 p1, .float .f32 p2, .float .f32 p3, .float .f32 p4, .float .f32 p5, .float .f32 p6, .float .f32 p7, .int .i64 st, .float .f32 sp, .float .f32 pi, .float .f32 en], .float .f32 pu] w fun e w' => ∃ r, e = .returned (.tuple #[.float .f32 r, .bool (netO (driveV p0 p1 p2 p3 p4 p5 p6 p7 st sp pi en) p1 (gridV p2 p4 st sp) sp pi pu)]) ∧ canon .f32 r = netR (driveV p0 p1 p2 p3 p4 p5 p6 p7 st sp pi en) p1 (gridV p2 p4 st sp) sp pi pu ∧ Below w.heap.size w w' := by
  have HB : ∀ o1, Hid (Below w.heap.size w (w.alloc o1)) := fun _ => Lib.hid ((Below.refl _ _).alloc (Nat.le_refl _) _)
  have K1 : ∀ t, Hid (BlkL (w.alloc (.cells #[.float .f32 p0, .float .f32 p1, .float .f32 p2, .float .f32 p3, .float .f32 p4, .float .f32 p5, .float .f32 p6, .float .f32 p7, .int .i64 st, .float .f32 sp, .float .f32 pi, .float .f32 en] t)) w.heap.size [.float .f32 p0, .float .f32 p1, .float .f32 p2, .float .f32 p3, .float .f32 p4, .float .f32 p5, .float .f32 p6, .float .f32 p7, .int .i64 st, .float .f32 sp, .float .f32 pi, .float .f32 en]) := fun _ => Lib.hid (blkL_at w #[.float .f32 p0, .float .f32 p1, .float .f32 p2, .float .f32 p3, .float .f32 p4, .float .f32 p5, .float .f32 p6, .float .f32 p7, .int .i64 st, .float .f32 sp, .float .f32 pi, .float .f32 en] _ rfl)
  obtain ⟨v, hv⟩ : ∃ v, driveV p0 p1 p2 p3 p4 p5 p6 p7 st sp pi en = v := ⟨_, rfl⟩
  rw [hv]
  have HV := Lib.hid hv
  clear hv
  go_enter Try.func42, Try.ntmps42
  go_wp2_with fail
  refine (i_GridTorque p0 p1 p2 p3 p4 p5 p6 p7 st sp pi en _).mono ?_
  rintro e w1 ⟨r, rfl, hr, b1⟩
  have HR := Lib.hid hr; clear hr
  have L1 : Hid (BlkL w1 w.heap.size [.float .f32 p0, .float .f32 p1, .float .f32 p2, .float .f32 p3, .float .f32 p4, .float .f32 p5, .float .f32 p6, .float .f32 p7, .int .i64 st, .float .f32 sp, .float .f32 pi, .float .f32 en]) := Lib.hid ((K1 _).out.below b1)
  have B1 : Hid (Below w.heap.size w w1) := Lib.hid (below_of (HB _).out (HB _).out.size b1)
  clear b1 K1 HB
  have HK := L1.out.c12
  have HC := Lib.hid HK
  obtain ⟨⟨k0, k1, k2, k3, k4, k5, k6, k7⟩, k8, k9, k10, k11⟩ := HK
  have hst : ∀ m, ∃ nn, { (w1.drewN m) with drawn := (w1.drewN m).drawn + 1 } = w1.drewN nn := fun m => ⟨m + 1, rfl⟩
  have hdd : ∀ nn j, ∃ mm, (w1.drewN nn).drewN j = w1.drewN mm := fun nn j => ⟨nn + j, World.drewN_drewN ..⟩
  rw [HV.out] at HR ⊢
  cases v
  · rw [show gridO false (gridV p2 p4 st sp) = false from rfl]
    go_wp2
    go_ret2
    exact ⟨_, rfl, canon_zero, B1.out⟩
  · cases hg : fin .f32 (gridV p2 p4 st sp)
    · rw [show gridO true (gridV p2 p4 st sp) = false from hg]
      go_wp2
      go_ret2
      exact ⟨_, by unfold netO; rw [net_grid hg]; rfl, by unfold netR; rw [onlyN_not (net_grid hg)]; exact canon_zero, B1.out⟩
    · rw [show gridO true (gridV p2 p4 st sp) = true from hg]
      have HQ : Hid (canon .f32 r = gridV p2 p4 st sp) := Lib.hid (by rw [HR.out]; exact onlyN_fin hg)
      have HG := Lib.hid hg; clear hg
      go_wp2_with fail
      refine wp_region_inv3 (fun q0 v => match q0 with
        | 0 => v = .float .f32 pu
        | 1 => v = .pointer (some ⟨w.heap.size, 10, none⟩)
        | 2 => v = .float .f32 pi
        | 3 => ∃ r, v = .float .f32 r ∧ canon .f32 r = fop .sub .f32 (canon .f32 1065353216) (canon .f32 pi)
        | 4 => ∃ r, v = .float .f32 r ∧ canon .f32 r = fop .mul .f32 (canon .f32 pu) (fop .sub .f32 (canon .f32 1065353216) (canon .f32 pi))
        | 5 => ∃ r, v = .float .f32 r ∧ canon .f32 r = gridV p2 p4 st sp
        | 6 => ∃ r, v = .float .f32 r ∧ canon .f32 r = fop .sub .f32 (fop .mul .f32 (canon .f32 pu) (fop .sub .f32 (canon .f32 1065353216) (canon .f32 pi))) (gridV p2 p4 st sp)
        | 7 => v = .pointer (some ⟨w.heap.size, 0, none⟩)
        | 8 => v = .pointer (some ⟨w.heap.size, 1, none⟩)
        | 9 => v = .float .f32 p1
        | 10 => v = .pointer (some ⟨w.heap.size, 9, none⟩)
        | 11 => v = .float .f32 sp
        | 12 => ∃ r, v = .float .f32 r ∧ canon .f32 r = fop .mul .f32 (canon .f32 p1) (canon .f32 sp)
        | 13 => ∃ r, v = .float .f32 r ∧ canon .f32 r = fop .sub .f32 (fop .sub .f32 (fop .mul .f32 (canon .f32 pu) (fop .sub .f32 (canon .f32 1065353216) (canon .f32 pi))) (gridV p2 p4 st sp)) (fop .mul .f32 (canon .f32 p1) (canon .f32 sp))
        | 14 => ∃ r, v = .tuple #[.float .f32 r, .bool (fin .f32 (fop .sub .f32 (fop .sub .f32 (fop .mul .f32 (canon .f32 pu) (fop .sub .f32 (canon .f32 1065353216) (canon .f32 pi))) (gridV p2 p4 st sp)) (fop .mul .f32 (canon .f32 p1) (canon .f32 sp))))] ∧ canon .f32 r = onlyN (fop .sub .f32 (fop .sub .f32 (fop .mul .f32 (canon .f32 pu) (fop .sub .f32 (canon .f32 1065353216) (canon .f32 pi))) (gridV p2 p4 st sp)) (fop .mul .f32 (canon .f32 p1) (canon .f32 sp)))
        | 15 => ∃ r, v = .float .f32 r ∧ canon .f32 r = onlyN (fop .sub .f32 (fop .sub .f32 (fop .mul .f32 (canon .f32 pu) (fop .sub .f32 (canon .f32 1065353216) (canon .f32 pi))) (gridV p2 p4 st sp)) (fop .mul .f32 (canon .f32 p1) (canon .f32 sp)))
        | 16 => v = .bool (fin .f32 (fop .sub .f32 (fop .sub .f32 (fop .mul .f32 (canon .f32 pu) (fop .sub .f32 (canon .f32 1065353216) (canon .f32 pi))) (gridV p2 p4 st sp)) (fop .mul .f32 (canon .f32 p1) (canon .f32 sp))))
        | 17 => ∃ r, v = .float .f32 r ∧ canon .f32 r = onlyN (fop .sub .f32 (fop .sub .f32 (fop .mul .f32 (canon .f32 pu) (fop .sub .f32 (canon .f32 1065353216) (canon .f32 pi))) (gridV p2 p4 st sp)) (fop .mul .f32 (canon .f32 p1) (canon .f32 sp)))
        | 18 => v = .bool (fin .f32 (fop .sub .f32 (fop .sub .f32 (fop .mul .f32 (canon .f32 pu) (fop .sub .f32 (canon .f32 1065353216) (canon .f32 pi))) (gridV p2 p4 st sp)) (fop .mul .f32 (canon .f32 p1) (canon .f32 sp))))
        | _ => False) (fun _ ww => ∃ nn, ww = w1.drewN nn) (by kernel_rfl) (by kernel_rfl) ⟨1, rfl⟩ ?hop ?hend
      case hop =>
        intro q o hq listed act w3 hI hnot hcl hall
        obtain ⟨nn, rfl⟩ := hI.cls
        rcases q with _ | _ | _ | _ | _ | _ | _ | _ | _ | _ | _ | _ | _ | _ | _ | _ | _ | _ | _ | q
        · simp at hq; subst hq
          have g1 : act.tmps[1]?.getD undef = .float .f32 pu := hI.kept 1 (by kernel_rfl)
          clear hI hall hnot hcl
          refine .inl ⟨wanted_none rfl, ?_⟩
          unfold Oper.wp
          go_simp
          all_goals exact ⟨_, rfl, rfl, ⟨_, rfl⟩⟩
        · simp at hq; subst hq
          have g2 : act.tmps[2]?.getD undef = .pointer (some ⟨w.heap.size, 0, none⟩) := hI.kept 2 (by kernel_rfl)
          clear hI hall hnot hcl
          refine .inl ⟨wanted_none rfl, ?_⟩
          unfold Oper.wp
          go_simp
          all_goals exact ⟨_, rfl, rfl, ⟨_, rfl⟩⟩
        · simp at hq; subst hq
          have g16 : act.tmps[16]?.getD undef = .pointer (some ⟨w.heap.size, 10, none⟩) := hI.has 1 16 rfl (hall ⟨1, .data⟩ (by simp) rfl)
          clear hI hall hnot hcl
          refine .inl ⟨wanted_none rfl, ?_⟩
          unfold Oper.wp
          go_simp
          all_goals exact ⟨_, rfl, rfl, ⟨_, rfl⟩⟩
        · simp at hq; subst hq
          have g17 : act.tmps[17]?.getD undef = .float .f32 pi := hI.has 2 17 rfl (hall ⟨2, .data⟩ (by simp) rfl)
          clear hI hall hnot hcl
          refine .inl ⟨wanted_none rfl, ?_⟩
          unfold Oper.wp
          go_simp
          exact ⟨_, rfl, ⟨_, rfl, canonF rfl rfl⟩, by first | exact ⟨_, rfl⟩ | exact hdd _ _⟩
        · simp at hq; subst hq
          have g15 : act.tmps[15]?.getD undef = .float .f32 pu := hI.has 0 15 rfl (hall ⟨0, .data⟩ (by simp) rfl)
          obtain ⟨r3, g18, h3a⟩ := hI.has 3 18 rfl (hall ⟨3, .data⟩ (by simp) rfl)
          clear hI hall hnot hcl
          refine .inl ⟨wanted_none rfl, ?_⟩
          unfold Oper.wp
          go_simp
          refine (i_mulNumbers _ _ _).mono ?_
          rintro e w4 ⟨rfl, rfl⟩
          exact ⟨_, rfl, ⟨_, rfl, canonF rfl h3a⟩, by first | exact ⟨_, rfl⟩ | exact hdd _ _⟩
        · simp at hq; subst hq
          obtain ⟨x6, g6, hx6⟩ : ∃ x, act.tmps[6]?.getD undef = .float .f32 x ∧ canon .f32 x = gridV p2 p4 st sp := ⟨_, hI.kept 6 (by kernel_rfl), HQ.out⟩
          clear hI hall hnot hcl
          refine .inl ⟨wanted_none rfl, ?_⟩
          unfold Oper.wp
          go_simp
          exact ⟨_, rfl, ⟨_, rfl, hx6⟩, ⟨_, rfl⟩⟩
        · simp at hq; subst hq
          obtain ⟨r4, g19, h4a⟩ := hI.has 4 19 rfl (hall ⟨4, .data⟩ (by simp) rfl)
          obtain ⟨r5, g20, h5a⟩ := hI.has 5 20 rfl (hall ⟨5, .data⟩ (by simp) rfl)
          clear hI hall hnot hcl
          refine .inl ⟨wanted_none rfl, ?_⟩
          unfold Oper.wp
          go_simp
          exact ⟨_, rfl, ⟨_, rfl, canonF h4a h5a⟩, by first | exact ⟨_, rfl⟩ | exact hdd _ _⟩
        · simp at hq; subst hq
          have g2 : act.tmps[2]?.getD undef = .pointer (some ⟨w.heap.size, 0, none⟩) := hI.kept 2 (by kernel_rfl)
          clear hI hall hnot hcl
          refine .inl ⟨wanted_none rfl, ?_⟩
          unfold Oper.wp
          go_simp
          all_goals exact ⟨_, rfl, rfl, ⟨_, rfl⟩⟩
        · simp at hq; subst hq
          have g22 : act.tmps[22]?.getD undef = .pointer (some ⟨w.heap.size, 0, none⟩) := hI.has 7 22 rfl (hall ⟨7, .data⟩ (by simp) rfl)
          clear hI hall hnot hcl
          refine .inl ⟨wanted_none rfl, ?_⟩
          unfold Oper.wp
          go_simp
          all_goals exact ⟨_, rfl, rfl, ⟨_, rfl⟩⟩
        · simp at hq; subst hq
          have g23 : act.tmps[23]?.getD undef = .pointer (some ⟨w.heap.size, 1, none⟩) := hI.has 8 23 rfl (hall ⟨8, .data⟩ (by simp) rfl)
          clear hI hall hnot hcl
          refine .inl ⟨wanted_none rfl, ?_⟩
          unfold Oper.wp
          go_simp
          all_goals exact ⟨_, rfl, rfl, ⟨_, rfl⟩⟩
        · simp at hq; subst hq
          have g2 : act.tmps[2]?.getD undef = .pointer (some ⟨w.heap.size, 0, none⟩) := hI.kept 2 (by kernel_rfl)
          clear hI hall hnot hcl
          refine .inl ⟨wanted_none rfl, ?_⟩
          unfold Oper.wp
          go_simp
          all_goals exact ⟨_, rfl, rfl, ⟨_, rfl⟩⟩
        · simp at hq; subst hq
          have g25 : act.tmps[25]?.getD undef = .pointer (some ⟨w.heap.size, 9, none⟩) := hI.has 10 25 rfl (hall ⟨10, .data⟩ (by simp) rfl)
          clear hI hall hnot hcl
          refine .inl ⟨wanted_none rfl, ?_⟩
          unfold Oper.wp
          go_simp
          all_goals exact ⟨_, rfl, rfl, ⟨_, rfl⟩⟩
        · simp at hq; subst hq
          have g24 : act.tmps[24]?.getD undef = .float .f32 p1 := hI.has 9 24 rfl (hall ⟨9, .data⟩ (by simp) rfl)
          have g26 : act.tmps[26]?.getD undef = .float .f32 sp := hI.has 11 26 rfl (hall ⟨11, .data⟩ (by simp) rfl)
          clear hI hall hnot hcl
          refine .inl ⟨wanted_none rfl, ?_⟩
          unfold Oper.wp
          go_simp
          refine (i_mulNumbers _ _ _).mono ?_
          rintro e w4 ⟨rfl, rfl⟩
          exact ⟨_, rfl, ⟨_, rfl, canonF rfl rfl⟩, by first | exact ⟨_, rfl⟩ | exact hdd _ _⟩
        · simp at hq; subst hq
          obtain ⟨r6, g21, h6a⟩ := hI.has 6 21 rfl (hall ⟨6, .data⟩ (by simp) rfl)
          obtain ⟨r12, g27, h12a⟩ := hI.has 12 27 rfl (hall ⟨12, .data⟩ (by simp) rfl)
          clear hI hall hnot hcl
          refine .inl ⟨wanted_none rfl, ?_⟩
          unfold Oper.wp
          go_simp
          exact ⟨_, rfl, ⟨_, rfl, canonF h6a h12a⟩, by first | exact ⟨_, rfl⟩ | exact hdd _ _⟩
        · simp at hq; subst hq
          obtain ⟨r13, g28, h13a⟩ := hI.has 13 28 rfl (hall ⟨13, .data⟩ (by simp) rfl)
          clear hI hall hnot hcl
          refine .inl ⟨wanted_none rfl, ?_⟩
          unfold Oper.wp
          go_simp
          refine (i_onlyFiniteC _ (fop .sub .f32 (fop .sub .f32 (fop .mul .f32 (canon .f32 pu) (fop .sub .f32 (canon .f32 1065353216) (canon .f32 pi))) (gridV p2 p4 st sp)) (fop .mul .f32 (canon .f32 p1) (canon .f32 sp))) _ h13a).mono ?_
          rintro e w4 ⟨ro, no, rfl, hro, rfl⟩
          exact ⟨_, rfl, ⟨_, rfl, hro⟩, by first | exact ⟨_, rfl⟩ | exact hdd _ _⟩
        · simp at hq; subst hq
          obtain ⟨r14, g29, h14a⟩ := hI.has 14 29 rfl (hall ⟨14, .data⟩ (by simp) rfl)
          clear hI hall hnot hcl
          refine .inl ⟨wanted_none rfl, ?_⟩
          unfold Oper.wp
          go_simp
          exact ⟨_, rfl, ⟨_, rfl, h14a⟩, ⟨_, rfl⟩⟩
        · simp at hq; subst hq
          obtain ⟨r14, g29, h14a⟩ := hI.has 14 29 rfl (hall ⟨14, .data⟩ (by simp) rfl)
          clear hI hall hnot hcl
          refine .inl ⟨wanted_none rfl, ?_⟩
          unfold Oper.wp
          go_simp
          all_goals exact ⟨_, rfl, rfl, ⟨_, rfl⟩⟩
        · simp at hq; subst hq
          obtain ⟨r15, g30, h15a⟩ := hI.has 15 30 rfl (hall ⟨15, .data⟩ (by simp) rfl)
          clear hI hall hnot hcl
          refine .inl ⟨wanted_none rfl, ?_⟩
          unfold Oper.wp
          go_simp
          exact ⟨_, rfl, ⟨_, rfl, h15a⟩, ⟨_, rfl⟩⟩
        · simp at hq; subst hq
          have g31 : act.tmps[31]?.getD undef = .bool (fin .f32 (fop .sub .f32 (fop .sub .f32 (fop .mul .f32 (canon .f32 pu) (fop .sub .f32 (canon .f32 1065353216) (canon .f32 pi))) (gridV p2 p4 st sp)) (fop .mul .f32 (canon .f32 p1) (canon .f32 sp)))) := hI.has 16 31 rfl (hall ⟨16, .data⟩ (by simp) rfl)
          clear hI hall hnot hcl
          refine .inl ⟨wanted_none rfl, ?_⟩
          unfold Oper.wp
          go_simp
          all_goals exact ⟨_, rfl, rfl, ⟨_, rfl⟩⟩
        · simp at hq
      case hend =>
        intro listed act w3 hI hall
        obtain ⟨nn, rfl⟩ := hI.cls
        obtain ⟨rq, g4, hrq⟩ := hI.has 17 4 rfl (hall 17 (by decide))
        have g5 : act.tmps[5]?.getD undef = .bool (fin .f32 (fop .sub .f32 (fop .sub .f32 (fop .mul .f32 (canon .f32 pu) (fop .sub .f32 (canon .f32 1065353216) (canon .f32 pi))) (gridV p2 p4 st sp)) (fop .mul .f32 (canon .f32 p1) (canon .f32 sp)))) := hI.has 18 5 rfl (hall 18 (by decide))
        have hd := hI.defers
        clear hI hall
        go_wp2
        refine bodyPost_ret (v := .tuple #[.float .f32 rq, .bool (fin .f32 (netV p1 (gridV p2 p4 st sp) sp pi pu))]) (by simp [results, Try.results42, g4, g5, go_sem, netV]) (by first | rfl | exact hd) ⟨rq, rfl, hrq, below_draws B1.out _⟩
end Go.Proofs.Ytmcfnkfcklcpnaa

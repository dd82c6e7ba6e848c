/- How much of what is rated was given: both sides. No statement is proved here. -/
import Derived.Test.YtmcfnkfcklcpnabDrvG
namespace Go.Proofs.Ytmcfnkfcklcpnab
open Go Go.RowKit
def shrV (p2 en ti : Nat) : Nat := fop .quo .f32 (canon .f32 en) (fop .mul .f32 (canon .f32 p2) (canon .f32 ti))
def shrO (v : Bool) (p2 en ti : Nat) : Bool := v && (posi ti && fin .f32 (shrV p2 en ti))
def shrR (v : Bool) (p2 en ti : Nat) : Nat := bif v && posi ti then onlyN (shrV p2 en ti) else 0
set_option maxHeartbeats 8000000 in
set_option maxRecDepth 100000 in
theorem i_ShareOfRated (p0 p1 p2 p3 p4 p5 p6 p7 : Nat) (st : Int) (sp pi en : Nat) (ti : Nat) (w : World) :
    Calls Try.prog 17 #[.agg #[.float .f32 p0, .float .f32 p1, .float .f32 p2, .float .f32 p3, .float .f32 p4, .float .f32 p5, .float .f32 p6, .float .f32 p7, .int .i64 st, .float .f32 sp, .float .f32 pi, .float .f32 en], .float .f32 ti] w fun e w' => ∃ r, e = .returned (.tuple #[.float .f32 r, .bool (shrO (driveV p0 p1 p2 p3 p4 p5 p6 p7 st sp pi en) p2 en ti)]) ∧ canon .f32 r = shrR (driveV p0 p1 p2 p3 p4 p5 p6 p7 st sp pi en) p2 en ti ∧ Below w.heap.size w w' := by
  have HB : ∀ o1, Hid (Below w.heap.size w (w.alloc o1)) := fun _ => Lib.hid ((Below.refl _ _).alloc (Nat.le_refl _) _)
  have K1 : ∀ t, Hid (BlkL (w.alloc (.cells #[.float .f32 p0, .float .f32 p1, .float .f32 p2, .float .f32 p3, .float .f32 p4, .float .f32 p5, .float .f32 p6, .float .f32 p7, .int .i64 st, .float .f32 sp, .float .f32 pi, .float .f32 en] t)) w.heap.size [.float .f32 p0, .float .f32 p1, .float .f32 p2, .float .f32 p3, .float .f32 p4, .float .f32 p5, .float .f32 p6, .float .f32 p7, .int .i64 st, .float .f32 sp, .float .f32 pi, .float .f32 en]) := fun _ => Lib.hid (blkL_at w #[.float .f32 p0, .float .f32 p1, .float .f32 p2, .float .f32 p3, .float .f32 p4, .float .f32 p5, .float .f32 p6, .float .f32 p7, .int .i64 st, .float .f32 sp, .float .f32 pi, .float .f32 en] _ rfl)
  obtain ⟨v, hv⟩ : ∃ v, driveV p0 p1 p2 p3 p4 p5 p6 p7 st sp pi en = v := ⟨_, rfl⟩
  rw [hv]
  have HV := Lib.hid hv
  clear hv
  go_enter Try.func17, Try.ntmps17
  go_wp2_with fail
  refine (i_ValidDrive p0 p1 p2 p3 p4 p5 p6 p7 st sp pi en _).mono ?_
  rintro e w1 ⟨rfl, b1⟩
  have L1 : Hid (BlkL w1 w.heap.size [.float .f32 p0, .float .f32 p1, .float .f32 p2, .float .f32 p3, .float .f32 p4, .float .f32 p5, .float .f32 p6, .float .f32 p7, .int .i64 st, .float .f32 sp, .float .f32 pi, .float .f32 en]) := Lib.hid ((K1 _).out.below b1)
  have B1 : Hid (Below w.heap.size w w1) := Lib.hid (below_of (HB _).out (HB _).out.size b1)
  clear b1 K1 HB
  have HK := L1.out.c12
  have HC := Lib.hid HK
  obtain ⟨⟨k0, k1, k2, k3, k4, k5, k6, k7⟩, k8, k9, k10, k11⟩ := HK
  have hst : ∀ m, ∃ nn, { (w1.drewN m) with drawn := (w1.drewN m).drawn + 1 } = w1.drewN nn := fun m => ⟨m + 1, rfl⟩
  have hdd : ∀ nn j, ∃ mm, (w1.drewN nn).drewN j = w1.drewN mm := fun nn j => ⟨nn + j, World.drewN_drewN ..⟩
  rw [HV.out]
  cases v
  · go_wp2
    go_ret2
    exact ⟨_, rfl, canon_zero, B1.out⟩
  · go_wp2_with fail
    refine (i_isPositive _ _).mono ?_
    rintro e w' ⟨n1, rfl, rfl⟩
    cases hg : posi ti
    · go_wp2
      go_ret2
      exact ⟨_, by unfold shrO; rw [hg]; rfl, by unfold shrR; rw [hg]; exact canon_zero, below_draws B1.out _⟩
    · have HG := Lib.hid hg; clear hg
      go_wp2_with fail
      refine wp_region_inv3 (fun q0 v => match q0 with
        | 0 => v = .pointer (some ⟨w.heap.size, 11, none⟩)
        | 1 => v = .float .f32 en
        | 2 => v = .pointer (some ⟨w.heap.size, 0, none⟩)
        | 3 => v = .pointer (some ⟨w.heap.size, 2, none⟩)
        | 4 => v = .float .f32 p2
        | 5 => v = .float .f32 ti
        | 6 => ∃ r, v = .float .f32 r ∧ canon .f32 r = fop .mul .f32 (canon .f32 p2) (canon .f32 ti)
        | 7 => ∃ r, v = .float .f32 r ∧ canon .f32 r = fop .quo .f32 (canon .f32 en) (fop .mul .f32 (canon .f32 p2) (canon .f32 ti))
        | 8 => ∃ r, v = .tuple #[.float .f32 r, .bool (fin .f32 (fop .quo .f32 (canon .f32 en) (fop .mul .f32 (canon .f32 p2) (canon .f32 ti))))] ∧ canon .f32 r = onlyN (fop .quo .f32 (canon .f32 en) (fop .mul .f32 (canon .f32 p2) (canon .f32 ti)))
        | 9 => ∃ r, v = .float .f32 r ∧ canon .f32 r = onlyN (fop .quo .f32 (canon .f32 en) (fop .mul .f32 (canon .f32 p2) (canon .f32 ti)))
        | 10 => v = .bool (fin .f32 (fop .quo .f32 (canon .f32 en) (fop .mul .f32 (canon .f32 p2) (canon .f32 ti))))
        | 11 => ∃ r, v = .float .f32 r ∧ canon .f32 r = onlyN (fop .quo .f32 (canon .f32 en) (fop .mul .f32 (canon .f32 p2) (canon .f32 ti)))
        | 12 => v = .bool (fin .f32 (fop .quo .f32 (canon .f32 en) (fop .mul .f32 (canon .f32 p2) (canon .f32 ti))))
        | _ => False) (fun _ ww => ∃ nn, ww = w1.drewN nn) (by kernel_rfl) (by kernel_rfl) (hst _) ?hop ?hend
      case hop =>
        intro q o hq listed act w3 hI hnot hcl hall
        obtain ⟨nn, rfl⟩ := hI.cls
        rcases q with _ | _ | _ | _ | _ | _ | _ | _ | _ | _ | _ | _ | _ | q
        · simp at hq; subst hq
          have g2 : act.tmps[2]?.getD undef = .pointer (some ⟨w.heap.size, 0, none⟩) := hI.kept 2 (by kernel_rfl)
          clear hI hall hnot hcl
          refine .inl ⟨wanted_none rfl, ?_⟩
          unfold Oper.wp
          go_simp
          all_goals exact ⟨_, rfl, rfl, ⟨_, rfl⟩⟩
        · simp at hq; subst hq
          have g14 : act.tmps[14]?.getD undef = .pointer (some ⟨w.heap.size, 11, none⟩) := hI.has 0 14 rfl (hall ⟨0, .data⟩ (by simp) rfl)
          clear hI hall hnot hcl
          refine .inl ⟨wanted_none rfl, ?_⟩
          unfold Oper.wp
          go_simp
          all_goals exact ⟨_, rfl, rfl, ⟨_, rfl⟩⟩
        · simp at hq; subst hq
          have g2 : act.tmps[2]?.getD undef = .pointer (some ⟨w.heap.size, 0, none⟩) := hI.kept 2 (by kernel_rfl)
          clear hI hall hnot hcl
          refine .inl ⟨wanted_none rfl, ?_⟩
          unfold Oper.wp
          go_simp
          all_goals exact ⟨_, rfl, rfl, ⟨_, rfl⟩⟩
        · simp at hq; subst hq
          have g16 : act.tmps[16]?.getD undef = .pointer (some ⟨w.heap.size, 0, none⟩) := hI.has 2 16 rfl (hall ⟨2, .data⟩ (by simp) rfl)
          clear hI hall hnot hcl
          refine .inl ⟨wanted_none rfl, ?_⟩
          unfold Oper.wp
          go_simp
          all_goals exact ⟨_, rfl, rfl, ⟨_, rfl⟩⟩
        · simp at hq; subst hq
          have g17 : act.tmps[17]?.getD undef = .pointer (some ⟨w.heap.size, 2, none⟩) := hI.has 3 17 rfl (hall ⟨3, .data⟩ (by simp) rfl)
          clear hI hall hnot hcl
          refine .inl ⟨wanted_none rfl, ?_⟩
          unfold Oper.wp
          go_simp
          all_goals exact ⟨_, rfl, rfl, ⟨_, rfl⟩⟩
        · simp at hq; subst hq
          have g1 : act.tmps[1]?.getD undef = .float .f32 ti := hI.kept 1 (by kernel_rfl)
          clear hI hall hnot hcl
          refine .inl ⟨wanted_none rfl, ?_⟩
          unfold Oper.wp
          go_simp
          all_goals exact ⟨_, rfl, rfl, ⟨_, rfl⟩⟩
        · simp at hq; subst hq
          have g18 : act.tmps[18]?.getD undef = .float .f32 p2 := hI.has 4 18 rfl (hall ⟨4, .data⟩ (by simp) rfl)
          have g19 : act.tmps[19]?.getD undef = .float .f32 ti := hI.has 5 19 rfl (hall ⟨5, .data⟩ (by simp) rfl)
          clear hI hall hnot hcl
          refine .inl ⟨wanted_none rfl, ?_⟩
          unfold Oper.wp
          go_simp
          refine (i_mulNumbers _ _ _).mono ?_
          rintro e w4 ⟨rfl, rfl⟩
          exact ⟨_, rfl, ⟨_, rfl, canonF rfl rfl⟩, by first | exact ⟨_, rfl⟩ | exact hdd _ _⟩
        · simp at hq; subst hq
          have g15 : act.tmps[15]?.getD undef = .float .f32 en := hI.has 1 15 rfl (hall ⟨1, .data⟩ (by simp) rfl)
          obtain ⟨r6, g20, h6a⟩ := hI.has 6 20 rfl (hall ⟨6, .data⟩ (by simp) rfl)
          clear hI hall hnot hcl
          refine .inl ⟨wanted_none rfl, ?_⟩
          unfold Oper.wp
          go_simp
          exact ⟨_, rfl, ⟨_, rfl, canonF rfl h6a⟩, by first | exact ⟨_, rfl⟩ | exact hdd _ _⟩
        · simp at hq; subst hq
          obtain ⟨r7, g21, h7a⟩ := hI.has 7 21 rfl (hall ⟨7, .data⟩ (by simp) rfl)
          clear hI hall hnot hcl
          refine .inl ⟨wanted_none rfl, ?_⟩
          unfold Oper.wp
          go_simp
          refine (i_onlyFiniteC _ (fop .quo .f32 (canon .f32 en) (fop .mul .f32 (canon .f32 p2) (canon .f32 ti))) _ h7a).mono ?_
          rintro e w4 ⟨ro, no, rfl, hro, rfl⟩
          exact ⟨_, rfl, ⟨_, rfl, hro⟩, by first | exact ⟨_, rfl⟩ | exact hdd _ _⟩
        · simp at hq; subst hq
          obtain ⟨r8, g22, h8a⟩ := hI.has 8 22 rfl (hall ⟨8, .data⟩ (by simp) rfl)
          clear hI hall hnot hcl
          refine .inl ⟨wanted_none rfl, ?_⟩
          unfold Oper.wp
          go_simp
          exact ⟨_, rfl, ⟨_, rfl, h8a⟩, ⟨_, rfl⟩⟩
        · simp at hq; subst hq
          obtain ⟨r8, g22, h8a⟩ := hI.has 8 22 rfl (hall ⟨8, .data⟩ (by simp) rfl)
          clear hI hall hnot hcl
          refine .inl ⟨wanted_none rfl, ?_⟩
          unfold Oper.wp
          go_simp
          all_goals exact ⟨_, rfl, rfl, ⟨_, rfl⟩⟩
        · simp at hq; subst hq
          obtain ⟨r9, g23, h9a⟩ := hI.has 9 23 rfl (hall ⟨9, .data⟩ (by simp) rfl)
          clear hI hall hnot hcl
          refine .inl ⟨wanted_none rfl, ?_⟩
          unfold Oper.wp
          go_simp
          exact ⟨_, rfl, ⟨_, rfl, h9a⟩, ⟨_, rfl⟩⟩
        · simp at hq; subst hq
          have g24 : act.tmps[24]?.getD undef = .bool (fin .f32 (fop .quo .f32 (canon .f32 en) (fop .mul .f32 (canon .f32 p2) (canon .f32 ti)))) := hI.has 10 24 rfl (hall ⟨10, .data⟩ (by simp) rfl)
          clear hI hall hnot hcl
          refine .inl ⟨wanted_none rfl, ?_⟩
          unfold Oper.wp
          go_simp
          all_goals exact ⟨_, rfl, rfl, ⟨_, rfl⟩⟩
        · simp at hq
      case hend =>
        intro listed act w3 hI hall
        obtain ⟨nn, rfl⟩ := hI.cls
        obtain ⟨rq, g4, hrq⟩ := hI.has 11 4 rfl (hall 11 (by decide))
        have g5 : act.tmps[5]?.getD undef = .bool (fin .f32 (fop .quo .f32 (canon .f32 en) (fop .mul .f32 (canon .f32 p2) (canon .f32 ti)))) := hI.has 12 5 rfl (hall 12 (by decide))
        have hd := hI.defers
        clear hI hall
        go_wp2
        refine bodyPost_ret (v := .tuple #[.float .f32 rq, .bool (fin .f32 (shrV p2 en ti))]) (by simp [results, Try.results17, g4, g5, go_sem, shrV]) (by first | rfl | exact hd) ⟨rq, ?_, ?_, below_draws B1.out _⟩
        · unfold shrO; rw [HG.out]; rfl
        · rw [hrq]; unfold shrR; rw [HG.out]; rfl
set_option maxHeartbeats 8000000 in
set_option maxRecDepth 100000 in
theorem s_ShareOfRated (p0 p1 p2 p3 p4 p5 p6 p7 : Nat) (st : Int) (sp pi en : Nat) (ti : Nat) (w : World) :
    Calls Try.prog 15 #[.agg #[.float .f32 p0, .float .f32 p1, .float .f32 p2, .float .f32 p3, .float .f32 p4, .float .f32 p5, .float .f32 p6, .float .f32 p7, .int .i64 st, .float .f32 sp, .float .f32 pi, .float .f32 en], .float .f32 ti] w fun e w' => ∃ r, e = .returned (.tuple #[.float .f32 r, .bool (shrO (driveV p0 p1 p2 p3 p4 p5 p6 p7 st sp pi en) p2 en ti)]) ∧ canon .f32 r = shrR (driveV p0 p1 p2 p3 p4 p5 p6 p7 st sp pi en) p2 en ti ∧ Below w.heap.size w w' := by
  obtain ⟨w1, hw⟩ : ∃ w1, w1 = w.alloc (.cells #[.float .f32 p0, .float .f32 p1, .float .f32 p2, .float .f32 p3, .float .f32 p4, .float .f32 p5, .float .f32 p6, .float .f32 p7, .int .i64 st, .float .f32 sp, .float .f32 pi, .float .f32 en] 31) := ⟨_, rfl⟩
  have B1 : Hid (Below w.heap.size w w1) := Lib.hid (by rw [hw]; exact (Below.refl _ _).alloc (Nat.le_refl _) _)
  have HK : C12 w1 w.heap.size p0 p1 p2 p3 p4 p5 p6 p7 st sp pi en := by rw [hw]; exact (blkL_at w #[.float .f32 p0, .float .f32 p1, .float .f32 p2, .float .f32 p3, .float .f32 p4, .float .f32 p5, .float .f32 p6, .float .f32 p7, .int .i64 st, .float .f32 sp, .float .f32 pi, .float .f32 en] _ rfl).c12
  have HC := Lib.hid HK
  obtain ⟨⟨k0, k1, k2, k3, k4, k5, k6, k7⟩, k8, k9, k10, k11⟩ := HK
  have hst : ∀ m, ∃ nn, { (w1.drewN m) with drawn := (w1.drewN m).drawn + 1 } = w1.drewN nn := fun m => ⟨m + 1, rfl⟩
  have hdd : ∀ nn j, ∃ mm, (w1.drewN nn).drewN j = w1.drewN mm := fun nn j => ⟨nn + j, World.drewN_drewN ..⟩
  obtain ⟨v, hv⟩ : ∃ v, driveV p0 p1 p2 p3 p4 p5 p6 p7 st sp pi en = v := ⟨_, rfl⟩
  rw [hv]
  have HV := Lib.hid hv
  clear hv
  go_enter Try.func15, Try.ntmps15
  go_wp2_with fail
  rw [← hw]
  clear hw
  refine (s_l05Is p0 p1 p2 p3 p4 p5 p6 p7 st sp pi en _ _ HC.out).mono ?_
  rintro e w' ⟨n1, rfl, rfl⟩
  rw [HV.out]
  cases v
  · go_wp2
    go_ret2
    exact ⟨_, rfl, canon_zero, below_draws B1.out _⟩
  · go_wp2_with fail
    refine (s_l02Above _ _).mono ?_
    rintro e w' ⟨n2, rfl, rfl⟩
    cases hg : posi ti
    · go_wp2
      go_ret2
      exact ⟨_, by unfold shrO; rw [hg]; rfl, by unfold shrR; rw [hg]; exact canon_zero, by repeat (first | exact B1.out | refine below_draws ?_ _)⟩
    · have HG := Lib.hid hg; clear hg
      go_wp2_with fail
      refine (s_l03NumberC _ (shrV p2 en ti) _ (canonF rfl (canonF rfl rfl))).mono ?_
      rintro e w' ⟨r', n4, rfl, hr', rfl⟩
      have HR := Lib.hid hr'; clear hr'
      go_wp2
      go_ret2
      exact ⟨_, by unfold shrO; rw [HG.out]; rfl, by rw [HR.out]; unfold shrR; rw [HG.out]; rfl, by repeat (first | exact B1.out | refine below_draws ?_ _)⟩
end Go.Proofs.Ytmcfnkfcklcpnab
